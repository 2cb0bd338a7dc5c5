import PyProof.Rows.All
import Wide.All
import OpenK.AllK
import Wide.FinOn
import Lean
import PyProof.EqAt
import PyProof.EqKinds
import PyProof.TupleCall
import PyProof.PassesOwn
import PyProof.StationsW
import PyProof.ZipIter
import PyProof.EnumMake
import PyProof.EnumFor
import KE.KRevIter
import PyProof.CollectWalk
import KE.KDictSum
import PyProof.ListRange
import PyProof.SumAny
import KE.KSortAsk
import KE.KSortTup
import PyProof.SetScanFacts
import PySem.Challenge.RW_bridgecrews_k28_no_wages
set_option Elab.async false
set_option linter.all false
set_option maxRecDepth 100000
namespace L2
open PySem PySem.Spec PyProof.Rows
abbrev Key:=Sum Int Str
def keyIs:Key→Value→Bool
 | .inl k,v=>Value.isInt k v
 | .inr x,v=>Value.isStrOf x v
def keyH (w:World):Key→Int
 | .inl k=>hashInt k
 | .inr x=>hashStr w x
theorem q17:∀ {k:Key} {v:Value},keyIs k v=true→(∃ i t,k=Sum.inl i∧v=Value.int i t)∨(∃ x t,k=Sum.inr x∧v=Value.str x t)
 | .inl i,v,h=>by
  obtain ⟨t,e⟩:=Value.isInt_shape (k:=i) (v:=v) h
  exact .inl ⟨i,t,rfl,e⟩
 | .inr x,v,h=>by
  obtain ⟨t,e⟩:=Value.isStrOf_shape (x:=x) (v:=v) h
  exact .inr ⟨x,t,rfl,e⟩
theorem keyIs_int (i:Int) (t:Tok):keyIs (.inl i) (.int i t)=true:=by simp [keyIs,Value.isInt]
theorem keyIs_str (x:Str) (t:Tok):keyIs (.inr x) (.str x t)=true:=by simp [keyIs,Value.isStrOf]
theorem key_ll (a b:Int):decide ((Sum.inl a:Key)=Sum.inl b)=(a == b):=by
 by_cases e:a=b
 ·subst e;simp
 ·have h:¬ (Sum.inl a:Key)=Sum.inl b:=fun q=>e (Sum.inl.inj q)
  rw [decide_eq_false h]
  exact (beq_eq_false_iff_ne.mpr e).symm
theorem key_rr (a b:Str):decide ((Sum.inr a:Key)=Sum.inr b)=decide (a=b):=by
 by_cases e:a=b
 ·subst e;simp
 ·have h:¬ (Sum.inr a:Key)=Sum.inr b:=fun q=>e (Sum.inr.inj q)
  rw [decide_eq_false h,decide_eq_false e]
theorem key_lr (a:Int) (b:Str):decide ((Sum.inl a:Key)=Sum.inr b)=false:=decide_eq_false (fun q=>nomatch q)
theorem key_rl (a:Str) (b:Int):decide ((Sum.inr a:Key)=Sum.inl b)=false:=decide_eq_false (fun q=>nomatch q)
def q14 (prog:Program) (w:World):PySem.KeyKind prog w Key where
 is:=keyIs
 hash:=keyH w
 inj:=fun v a b ha hb=>by
  rcases q17 ha with ⟨i,t,rfl,rfl⟩ | ⟨x,t,rfl,rfl⟩
  ·rcases q17 hb with ⟨j,u,rfl,e⟩ | ⟨y,u,rfl,e⟩
   ·injection e with e1 _;rw [e1]
   ·exact nomatch e
  ·rcases q17 hb with ⟨j,u,rfl,e⟩ | ⟨y,u,rfl,e⟩
   ·exact nomatch e
   ·injection e with e1 _;rw [e1]
 byValue:=fun k v h=>by
  rcases q17 h with ⟨i,t,rfl,rfl⟩ | ⟨x,t,rfl,rfl⟩ <;> rfl
 pyHash:=fun hv h=>by
  rcases q17 hv with ⟨i,t,rfl,rfl⟩ | ⟨x,t,rfl,rfl⟩
  ·exact wpAny_pyHash_int h
  ·exact wpAny_pyHash_str h
 eqBool:=fun hu hv h=>by
  rcases q17 hu with ⟨i,t,rfl,rfl⟩ | ⟨x,t,rfl,rfl⟩
  ·rcases q17 hv with ⟨j,u,rfl,rfl⟩ | ⟨y,u,rfl,rfl⟩
   ·rw [key_ll] at h;exact wpAny_eqBool_int h
   ·rw [key_lr] at h;exact SeqAt.EqAt.int_str i t y u _ _ _ _ h
  ·rcases q17 hv with ⟨j,u,rfl,rfl⟩ | ⟨y,u,rfl,rfl⟩
   ·rw [key_rl] at h;exact SeqAt.EqAt.str_int x t j u _ _ _ _ h
   ·rw [key_rr] at h;exact wpAny_eqBool_str h
 «strs»:=fun k x t v h=>by
  rcases q17 h with ⟨i,u,rfl,e⟩ | ⟨y,u,rfl,e⟩
  ·exact nomatch e
  ·injection e with e1 _
   subst e1
   cases v <;> rfl
theorem z0h (prog:Program) (w:World) (i:Int) (t:Tok):(q14 prog w).is (.inl i) (.int i t)=true:=keyIs_int i t
theorem q9k (prog:Program) (w:World) (x:Str) (t:Tok):(q14 prog w).is (.inr x) (.str x t)=true:=keyIs_str x t
end L2
namespace L2
open PySem PySem.Spec PyProof.Rows
inductive V where
 | non | bl (b:Bool) | int (i:Int) | str (x:Str) | byt (b:Array UInt8) | flt (b:UInt64) | ref (a:Addr) | ty (n:String)
 deriving DecidableEq
def RelV:V→Value→Prop
 | .non,u=>u=Value.none
 | .bl b,u=>u=Value.bool b
 | .int i,u=>∃ t,u=Value.int i t
 | .str x,u=>∃ t,u=Value.str x t
 | .byt b,u=>∃ t,u=Value.bytes b t
 | .flt b,u=>∃ t,u=Value.float b t
 | .ref a,u=>u=Value.ref a
 | .ty n,u=>u=Value.type n
abbrev Vals:List V→List Value→Prop:=Paired RelV
theorem Vals.length {xs:List V} {us:List Value} (r:Vals xs us):xs.length=us.length:=Paired.length r
theorem Vals.get:∀ {xs:List V} {us:List Value} {i:Nat} {x:V},Vals xs us→xs[i]?=some x→∃ u,us[i]?=some u∧RelV x u
 | _,_,_,_,.nil,e=>by simp at e
 | _,_,0,_,.cons r _,e=>by simp at e;subst e;exact ⟨_,rfl,r⟩
 | _,_,i+1,x,.cons _ t,e=>by
  obtain ⟨u,h1,h2⟩:=Vals.get (i:=i) (x:=x) t (by simpa using e)
  exact ⟨u,by simpa using h1,h2⟩
theorem Vals.set {x:V} {u:Value} (r:RelV x u):∀ {xs:List V} {us:List Value} (i:Nat),Vals xs us→Vals (xs.set i x) (us.set i u)
 | _,_,_,.nil=>.nil
 | _,_,0,.cons _ t=>.cons r t
 | _,_,i+1,.cons q t=>.cons q (Vals.set r i t)
theorem Vals.append:∀ {xs ys:List V} {us ws:List Value},Vals xs us→Vals ys ws→Vals (xs++ys) (us++ws)
 | _,_,_,_,.nil,s=>s
 | _,_,_,_,.cons r t,s=>.cons r (Vals.append t s)
theorem Vals.none_of:∀ {xs:List V} {us:List Value} {i:Nat},Vals xs us→xs[i]?=none→us[i]?=none:=fun {xs us i} r e=>by
 have h1:=r.length
 have h2:xs.length≤i:=List.getElem?_eq_none_iff.mp e
 exact List.getElem?_eq_none_iff.mpr (by omega)
def RelO:Option V→Option Value→Prop
 | some v,some u=>RelV v u
 | none,none=>True
 | _,_=>False
def KV {κ:Type}:List (κ × V)→List (κ × Value)→Prop:=Paired fun (p:κ × V) (q:κ × Value)=>p.1=q.1∧RelV p.2 q.2
def kV:Key→V
 | .inl i=>.int i
 | .inr x=>.str x
inductive HO where
 | lst (xs:List V)
 | tup (xs:List V)
 | dK (kvs:List (Key × V)) | dT (kvs:List (List Key × V))
 | set (S:Int→Bool) (n:Nat)
 | ins (C dx:Addr) (fs:List (Str × V))
 | own (x:Addr)
 | xd (fs:List (Str × V))
 | met (f x:Addr)
 | rng (lo hi:Int)
 | frz (o:Obj) (u:HO)
 | tbl (ps:Array Value)
 | ext (φ:Heap→Prop)
abbrev Hp:=Addr→Option HO
def upd (H:Hp) (a:Addr) (o:HO):Hp:=fun b=>if b=a then some o else H b
theorem q01 {H:Hp} {a:Addr} {o:HO}:upd H a o a=some o:=by unfold upd;rw [if_pos rfl]
theorem q08 {H:Hp} {a b:Addr} {o:HO} (h:b≠a):upd H a o b=H b:=by unfold upd;rw [if_neg h]
theorem upd_upd {H:Hp} {a:Addr} {o u:HO}:upd (upd H a o) a u=upd H a u:=by
 funext b;unfold upd;split <;> rfl
theorem q5q {H:Hp} {a b:Addr} {o u:HO} (h:H a=some o) (h':H b=some u) (d:o≠u):a≠b:=by
 intro e;subst e;rw [h] at h';exact d (Option.some.inj h')
theorem q05 {H:Hp} {a b:Addr} {o:HO} (h:H a=some o) (h':H b=none):a≠b:=by
 intro e;subst e;rw [h] at h';cases h'
section
variable (P:Program) (w:World)
def ObjOk (H:Hp) (h:Heap) (a:Addr):HO→Prop
 | .lst xs=>xs.length≤sizeLine∧∃ (its:List Value) (n:Nat),Vals xs its∧h.get? a=some { cls:=.type "list",data:=.seq its.toArray n }
 | .tup xs=>xs.length≤sizeLine∧∃ its:List Value,Vals xs its∧IsTup h a its.toArray
 | .dK kvs=>kvs.length≤sizeLine∧(a == sysModules)=false∧∃ vs,KV kvs vs∧h.DictOf (q14 P w) a vs
 | .dT kvs=>kvs.length≤sizeLine∧(a == sysModules)=false∧∃ xs:List (List Key × Addr × Value),
   Paired (fun (p:List Key × V) (q:List Key × Addr × Value)=>p.1=q.1∧H q.2.1=some (.tup (p.1.map kV))∧RelV p.2 q.2.2) kvs xs∧
   ∃ o es ep,h.get? a=some o∧o.ExactDict∧o.data=.dict es ep∧es.toList=xs.map (entryOfKey (tupleKind (q14 P w)))∧(xs.map (·.1)).Nodup
 | .set S n=>h.SetOf (intKind P w) a S n
 | .ins C dx fs=>H dx=some (.own a)∧fs.length≤1000∧dx≠a∧h.get? a=some (W.instObj C dx)∧
   ∃ mA,h.Ns1 dx mA∧(∀ f,RelO (fs.lookup f) (mA f))∧PySem.Within mA (fs.map (·.1))
 | .own _=>∃ o,h.get? a=some o
 | .xd fs=>∃ mA,h.Ns1 a mA∧∀ f,RelO (fs.lookup f) (mA f)
 | .rng lo hi=>∃ t u v,h.get? a=some { cls:=.type "range",data:=.fields #[.int lo t,.int hi u,.int 1 v] }
 | .frz o u=>h.get? a=some o∧ObjOk H h a u
 | .tbl ps=>h.get? a=some { cls:=.none,data:=.fields ps }
 | .met f x=>h.get? a=some (W.methodObj (.ref f) (.ref x))
 | .ext φ=>φ h∧(∃ o,h.get? a=some o)∧∀ h1 h2:Heap,φ h1→(∀ o,h1.get? a=some o→h2.get? a=some o)→φ h2
def HOk (H:Hp) (h:Heap):Prop:=∀ a o,H a=some o→ObjOk P w H h a o
end
section
variable {P:Program} {w:World} {H H':Hp} {h h':Heap} {a:Addr} {o:HO}
theorem ObjOk.lt (x:ObjOk P w H h a o):a < h.objs.size:=by
 cases o with
 | lst xs=>obtain ⟨_,_,_,_,e⟩:=x;exact Heap.lt_size e
 | tup xs=>obtain ⟨_,_,_,p⟩:=x;exact p.lt
 | dK kvs=>obtain ⟨_,_,_,_,o,_,_,e,_⟩:=x;exact Heap.lt_size e
 | dT kvs=>obtain ⟨_,_,_,_,o,_,_,e,_⟩:=x;exact Heap.lt_size e
 | set S n=>obtain ⟨o,_,_,_,e,_⟩:=x;exact Heap.lt_size e
 | ins C dx fs=>obtain ⟨_,_,_,e,_⟩:=x;exact Heap.lt_size e
 | own y=>obtain ⟨_,e⟩:=x;exact Heap.lt_size e
 | xd fs=>obtain ⟨_,⟨_,_,_,e,_⟩,_⟩:=x;exact Heap.lt_size e
 | rng lo hi=>obtain ⟨_,_,_,e⟩:=x;exact Heap.lt_size e
 | frz ob u=>obtain ⟨e,_⟩:=x;exact Heap.lt_size e
 | tbl ps=>exact Heap.lt_size (show h.get? a=some _ from x)
 | met f y=>exact Heap.lt_size (show h.get? a=some _ from x)
 | ext φ=>obtain ⟨_,⟨_,e⟩,_⟩:=x;exact Heap.lt_size e
theorem Paired.mapP {α β:Type} {F G:α→β→Prop}:∀ {l₁:List α} {l₂:List β},Paired F l₁ l₂→(∀ a b,F a b→G a b)→Paired G l₁ l₂
 | _,_,.nil,_=>.nil
 | _,_,.cons r t,f=>.cons (f _ _ r) (Paired.mapP t f)
theorem ObjOk.stay (x:ObjOk P w H h a o) (k:∀ b u,(b=a∨H b=some (.own a))→h.get? b=some u→h'.get? b=some u)
  (ho:∀ b,H b=some (.own a)→H' b=some (.own a)) (ht:∀ b xs,H b=some (.tup xs)→H' b=some (.tup xs)):ObjOk P w H' h' a o:=by
 induction o with
 | lst xs=>obtain ⟨z,its,n,r,e⟩:=x;exact ⟨z,its,n,r,k _ _ (.inl rfl) e⟩
 | tup xs=>obtain ⟨z,its,r,ob,e,c⟩:=x;exact ⟨z,its,r,ob,k _ _ (.inl rfl) e,c⟩
 | dK kvs=>obtain ⟨z,y,vs,r,ob,es,ep,e,c⟩:=x;exact ⟨z,y,vs,r,ob,es,ep,k _ _ (.inl rfl) e,c⟩
 | dT kvs=>
  obtain ⟨z,y,xs,r,ob,es,ep,e,c⟩:=x
  exact ⟨z,y,xs,Paired.mapP r fun p q z=>⟨z.1,ht _ _ z.2.1,z.2.2⟩,ob,es,ep,k _ _ (.inl rfl) e,c⟩
 | set S n=>obtain ⟨ob,es,ep,t,e,c⟩:=x;exact ⟨ob,es,ep,t,k _ _ (.inl rfl) e,c⟩
 | ins C dx fs=>
  obtain ⟨d,z,ne,e,mA,⟨od,es,ep,e2,c⟩,r⟩:=x
  exact ⟨ho _ d,z,ne,k _ _ (.inl rfl) e,mA,⟨od,es,ep,k _ _ (.inr d) e2,c⟩,r⟩
 | own y=>obtain ⟨ob,e⟩:=x;exact ⟨ob,k _ _ (.inl rfl) e⟩
 | xd fs=>obtain ⟨mA,⟨od,es,ep,e,c⟩,r⟩:=x;exact ⟨mA,⟨od,es,ep,k _ _ (.inl rfl) e,c⟩,r⟩
 | rng lo hi=>obtain ⟨t,u,v,e⟩:=x;exact ⟨t,u,v,k _ _ (.inl rfl) e⟩
 | frz ob u ih=>obtain ⟨e,q⟩:=x;exact ⟨k _ _ (.inl rfl) e,ih q⟩
 | tbl ps=>
  have e:h.get? a=some { cls:=.none,data:=.fields ps }:=x
  show h'.get? a=some { cls:=.none,data:=.fields ps }
  exact k a _ (.inl rfl) e
 | met f y=>
  have e:h.get? a=some (W.methodObj (.ref f) (.ref y)):=x
  show h'.get? a=some (W.methodObj (.ref f) (.ref y))
  exact k a _ (.inl rfl) e
 | ext φ=>obtain ⟨p,⟨o,e⟩,st⟩:=x;exact ⟨st _ _ p fun o q=>k _ _ (.inl rfl) q,⟨o,k _ _ (.inl rfl) e⟩,st⟩
theorem HOk.lt (x:HOk P w H h) (e:H a=some o):a < h.objs.size:=(x a o e).lt
theorem HOk.fresh (x:HOk P w H h) (e:h.objs.size≤a):H a=none:=by
 cases q:H a with
 | none=>rfl
 | some u=>exact absurd (Nat.lt_of_lt_of_le (x.lt q) e) (Nat.lt_irrefl _)
theorem HOk.kept (x:HOk P w H h) (k:∀ b u,h.get? b=some u→h'.get? b=some u):HOk P w H h':=fun a o e=>
 (x a o e).stay (fun b u _ q=>k b u q) (fun _ q=>q) fun _ _ q=>q
theorem HOk.laid (x:HOk P w H h) (k:∀ b u,h.get? b=some u→h'.get? b=some u) (hp:h.objs.size≤a) (new:ObjOk P w (upd H a o) h' a o):HOk P w (upd H a o) h':=fun b u e=>by
 have hn:=x.fresh hp
 by_cases hb:b=a
 ·subst hb;rw [q01] at e;cases e;exact new
 ·rw [q08 hb] at e
  exact (x b u e).stay (fun c v _ q=>k c v q) (fun c q=>by rw [q08 (q05 q hn)];exact q) fun c xs q=>by rw [q08 (q05 q hn)];exact q
end
def Rd (H:Hp) (a:Addr) (u:HO):Prop:=H a=some u∨∃ o,H a=some (.frz o u)
theorem Rd.ok {P:Program} {w:World} {H:Hp} {h:Heap} {a:Addr} {u:HO} (r:Rd H a u) (x:HOk P w H h):ObjOk P w H h a u:=by
 rcases r with r | ⟨o,r⟩
 ·exact x a u r
 ·obtain ⟨_,q⟩:=x a _ r
  exact q
def Mut:Option HO→Prop
 | some (.lst _)=>True
 | some (.dK _)=>True
 | some (.dT _)=>True
 | some (.set _ _)=>True
 | some (.ins _ _ _)=>True
 | some (.ext _)=>True
 | _=>False
section
variable {P:Program} {w:World} {H:Hp} {h h':Heap} {x e:Addr} {o':HO}
theorem HOk.write (ok:HOk P w H h) (mu:Mut (H x)) (he:e=x∨H e=some (.own x)) (k:∀ b u,b≠e→h.get? b=some u→h'.get? b=some u) (heo:∃ u,h'.get? e=some u)
  (new:ObjOk P w (upd H x o') h' x o'):HOk P w (upd H x o') h':=fun b u q=>by
 have nown:∀ c y,H c=some (.own y)→c≠x:=fun c y r z=>by subst z;rw [r] at mu;exact mu
 have ntup:∀ c xs,H c=some (.tup xs)→c≠x:=fun c xs r z=>by subst z;rw [r] at mu;exact mu
 by_cases hb:b=x
 ·subst hb;rw [q01] at q;cases q;exact new
 ·rw [q08 hb] at q
  by_cases hbe:b=e
  ·have q':H b=some (.own x):=by
    rcases he with z | z
    ·exact absurd (hbe.trans z) hb
    ·rw [hbe];exact z
   rw [q] at q';cases q'
   obtain ⟨v,hv⟩:=heo
   exact ⟨v,by rw [hbe];exact hv⟩
  ·refine (ok b u q).stay (fun c v hc r=>k c v ?_ r) (fun c r=>by rw [q08 (nown c b r)];exact r) fun c xs r=>by rw [q08 (ntup c xs r)];exact r
   rcases hc with rfl | hc
   ·exact hbe
   ·rintro rfl
    rcases he with z | z
    ·exact nown c b hc z
    ·rw [hc] at z;cases z;exact hb rfl
end
structure Un (fs ex:List Addr) (H H':Hp) (h h':Heap):Prop where
 keep:∀ b o,h.get? b=some o→H b=none→b ∉ fs→b ∉ ex→h'.get? b=some o
 slot:∀ b o,h.get? b=some o→H b=none→b∈fs→b ∉ ex→∃ sl,h'.get? b=some { o with slots:=sl }
 free:∀ b o,h.get? b=some o→H b=none→b ∉ ex→H' b=none
 there:∀ b o,h.get? b=some o→b ∉ ex→∃ o',h'.get? b=some o'
 tups:∀ b xs,H b=some (.tup xs)→H' b=some (.tup xs)
 frzs:∀ b o u,H b=some (.frz o u)→H' b=some (.frz o u)
 tbls:∀ b ps,H b=some (.tbl ps)→∃ more,H' b=some (.tbl (ps++more))
section
variable {fs fs' ex ex':List Addr} {H H1 H2:Hp} {h h1 h2 h':Heap} {a x e:Addr} {o:HO}
theorem Un.any (u:Un fs ex H H1 h h1) {b:Addr} {ob:Obj} (q:h.get? b=some ob) (n:H b=none) (hx:b ∉ ex):∃ sl,h1.get? b=some { ob with slots:=sl }:=by
 by_cases hb:b∈fs
 ·exact u.slot b ob q n hb hx
 ·exact ⟨ob.slots,u.keep b ob q n hb hx⟩
theorem Un.kept (k:∀ b u,h.get? b=some u→h'.get? b=some u):Un fs ex H H h h':=
 ⟨fun b ob q _ _ _=>k b ob q,fun b ob q _ _ _=>⟨ob.slots,k b ob q⟩,fun _ _ _ n _=>n,fun b ob q _=>⟨ob,k b ob q⟩,fun _ _ q=>q,fun _ _ _ q=>q,fun _ ps q=>⟨#[],by rw [q];simp⟩⟩
theorem Un.refl:Un fs ex H H h h:=Un.kept fun _ _ q=>q
theorem Un.laid (k:∀ b u,h.get? b=some u→h'.get? b=some u) (hp:h.objs.size≤a) (hn:H a=none):Un fs ex H (upd H a o) h h' where
 keep:=fun b u q _ _ _=>k b u q
 slot:=fun b u q _ _ _=>⟨u.slots,k b u q⟩
 free:=fun b u q n _=>by rw [q08 (Nat.ne_of_lt (Nat.lt_of_lt_of_le (Heap.lt_size q) hp))];exact n
 there:=fun b u q _=>⟨u,k b u q⟩
 tups:=fun b xs q=>by rw [q08 (q05 q hn)];exact q
 frzs:=fun b u xs q=>by rw [q08 (q05 q hn)];exact q
 tbls:=fun b ps q=>⟨#[],by rw [q08 (q05 q hn),q];simp⟩
theorem Un.write (mu:Mut (H x)) (he:e=x∨H e=some (.own x)) (k:∀ b u,b≠e→h.get? b=some u→h'.get? b=some u) (heo:∃ u,h'.get? e=some u):Un fs ex H (upd H x o) h h':=by
 have hx:∀ b,H b=none→b≠x:=fun b n z=>by subst z;rw [n] at mu;exact mu
 have hb:∀ b,H b=none→b≠e:=fun b n z=>by
  subst z
  rcases he with r | r
  ·exact hx b n r
  ·rw [n] at r;cases r
 have hm:∀ b u,H b=some u→¬ Mut (some u)→b≠x:=fun b u q nm z=>by subst z;rw [q] at mu;exact nm mu
 refine ⟨fun b u q n _ _=>k b u (hb b n) q,fun b u q n _ _=>⟨u.slots,k b u (hb b n) q⟩,fun b u q n _=>by rw [q08 (hx b n)];exact n,fun b u q _=>?_,
  fun b xs q=>by rw [q08 (hm b _ q fun z=>z)];exact q,fun b u xs q=>by rw [q08 (hm b _ q fun z=>z)];exact q,fun b ps q=>⟨#[],by rw [q08 (hm b _ q fun z=>z),q];simp⟩⟩
 by_cases hbe:b=e
 ·subst hbe;exact heo
 ·exact ⟨u,k b u hbe q⟩
end
def trk (h:Heap) (H:Hp):List Addr:=(List.range h.objs.size).filter fun a=>(H a).isSome
def hidT (h:Heap) (H:Hp):Heap:=W.hideAll h (trk h H)
theorem hidT_size (h:Heap) (H:Hp):(hidT h H).objs.size=h.objs.size:=W.hideAll_size _ _
theorem hidT_get {h:Heap} {H:Hp} {b:Addr} {o:Obj} (e:h.get? b=some o) (n:H b=none):(hidT h H).get? b=some o:=
 W.hideAll_get _ e fun hm=>by
  have q:(H b).isSome=true:=(List.mem_filter.mp hm).2
  rw [n] at q;simp at q
theorem of_hidT {h:Heap} {H:Hp} {b:Addr} {o:Obj} (e:(hidT h H).get? b=some o):h.get? b=some o∧H b=none:=by
 have e':h.get? b=some o:=W.of_hideAll (trk h H) e
 refine ⟨e',?_⟩
 cases q:H b with
 | none=>rfl
 | some x=>
  have hm:b∈trk h H:=List.mem_filter.mpr ⟨List.mem_range.mpr (Heap.lt_size e'),by simp [q]⟩
  have z:(hidT h H).get? b=none:=W.hideAll_none (trk h H) hm
  rw [z] at e;cases e
end L2
namespace L2
open PySem PySem.Spec PyProof.Rows
structure Mod (K:W.Frag) (mg:Str→Option Value) (base:Heap):Prop where
 kin:K.In base
 glob:base.Ns mainGlobals mg
 blt:∃ mb,base.Ns builtinsNs mb∧∀ x:Str,x ≠ "__name__" → mb x=bootBuiltins x
 nolimit:base.NoLimit
structure Cx where
 prog:Program
 w:World
 K:W.Frag
 mg:Str→Option Value
 base:Heap
 A:Around
 N:List Str
 s₀:Shared
 H₀:Hp
 env:Env
 outer:List Env
 stack:List Env
 ex:List Addr
 fn:Str→Bool
 calm:Bool
 pn:List (Addr × Obj)
 xe:Value→Shared→Prop
def frs (l:List Env):List Addr:=l.filterMap (·.frame)
abbrev Cx.fs (X:Cx):List Addr:=frs X.outer
def Vis (sc:Scope) (x:Str):Prop:=sc.names.lookup x=some .local∨sc.names.lookup x=some .cell∨sc.names.lookup x=some .free
def Loc (sc:Scope) (x:Str):Prop:=sc.names.lookup x=some .local∨sc.names.lookup x=some .cell
def Look (env:Env) (h:Heap) (m:Str→Option Value) (x:Str) (u:Value):Prop:=
 (env.kindOf x=some .local∧m x=some u)∨((env.kindOf x=some .cell∨env.kindOf x=some .free)∧∃ c,env.cells.lookup x=some c∧h.IsCell c (some u))
structure Cx.Ok (X:Cx):Prop where
 mod:Mod X.K X.mg X.base
 kind:X.env.scope.kind=.function
 glob:X.env.globals=mainGlobals
 blt:X.env.builtins=builtinsNs
 above:X.s₀.heap.objs.size≤X.env.locals
 inj:∀ x y c,X.env.cells.lookup x=some c→X.env.cells.lookup y=some c→x=y
 has:∀ x,(X.env.kindOf x=some .cell∨X.env.kindOf x=some .free)→∃ c,X.env.cells.lookup x=some c
 cab:∀ x c,X.fn x=true→X.env.cells.lookup x=some c→X.s₀.heap.objs.size≤c
 hd:X.calm=true→X.A.handled=none
 frames:X.A.frames=some X.stack
 stk:X.stack=X.outer∨(X.stack=X.env::X.outer∧X.env.frame=some X.env.locals)
 exf:∀ b∈X.ex,b≠X.env.locals∧∀ x c,X.env.cells.lookup x=some c→c≠b
 bs:∀ b o,X.base.get? b=some o→X.s₀.heap.get? b=some o∧X.H₀ b=none
 bsz:X.base.objs.size≤X.s₀.heap.objs.size
 noex:∀ b o,X.base.get? b=some o→b ∉ X.ex
 exfs:∀ b∈X.ex,b ∉ X.fs
 funs:X.s₀.heap.FunFrames X.base X.outer
 frf:∀ b∈X.fs,X.H₀ b=none
structure Inv (X:Cx) (pins:List (Addr × Obj)) (σ:List (Option V)) (H:Hp) (s:Shared):Prop where
 ok:X.Ok
 os:s.os=X.s₀.os
 bare:AllBare s.gens
 base:Un X.fs X.ex X.H₀ H X.s₀.heap s.heap
 loc:∃ m,s.heap.Ns X.env.locals m∧∀ (i:Nat) (x:Str) (v:V),X.N[i]?=some x→σ[i]?=some (some v)→Vis X.env.scope x→∃ u,RelV v u∧Look X.env s.heap m x u
 cell:∀ x c,X.env.cells.lookup x=some c→∃ v,s.heap.IsCell c v
 free:H X.env.locals=none
 freeC:∀ x c,X.env.cells.lookup x=some c→H c=none
 pin:∀ p∈X.pn++pins,s.heap.get? p.1=some p.2∧H p.1=none∧p.1≠X.env.locals∧p.1 ∉ X.fs∧∀ v,p.2.data≠.cell v
 hok:HOk X.prog X.w H s.heap
 len:σ.length=X.N.length
section
variable {X:Cx} {pins:List (Addr × Obj)} {σ:List (Option V)} {H H':Hp} {s:Shared} {h':Heap}
theorem Cx.Ok.nofr (ok:X.Ok) {b:Addr} {o:Obj} (e:X.base.get? b=some o):b ∉ X.fs:=fun hb=>by
 have:=(ok.funs.mem hb).1
 rw [e] at this;cases this
theorem Inv.bs (I:Inv X pins σ H s):∀ b o,X.base.get? b=some o→s.heap.get? b=some o∧H b=none:=fun b o e=>
 ⟨I.base.keep b o (I.ok.bs b o e).1 (I.ok.bs b o e).2 (I.ok.nofr e) (I.ok.noex b o e),I.base.free b o (I.ok.bs b o e).1 (I.ok.bs b o e).2 (I.ok.noex b o e)⟩
theorem Inv.bk (I:Inv X pins σ H s):∀ b o,X.base.get? b=some o→s.heap.get? b=some o:=fun b o e=>(I.bs b o e).1
theorem Inv.mod (I:Inv X pins σ H s):Mod X.K X.mg X.base:=I.ok.mod
theorem Inv.kIn (I:Inv X pins σ H s):X.K.In s.heap:=I.ok.mod.kin.keeps I.bk
theorem Inv.fr (I:Inv X pins σ H s):∃ m,Fr X.base X.env.locals s.heap m:=
 let ⟨m,hn,_⟩:=I.loc
 ⟨m,hn,I.bk,Nat.le_trans I.ok.bsz I.ok.above⟩
theorem Inv.lt (I:Inv X pins σ H s):X.env.locals < s.heap.objs.size:=let ⟨_,hn,_⟩:=I.loc;hn.lt
theorem Inv.sz (I:Inv X pins σ H s):X.s₀.heap.objs.size≤s.heap.objs.size:=Nat.le_trans I.ok.above (Nat.le_of_lt I.lt)
theorem Inv.nofs (I:Inv X pins σ H s) {a:Addr} (h:s.heap.objs.size≤a):a ∉ X.fs:=fun hb=>by
 obtain ⟨_,o,ho,_⟩:=I.ok.funs.mem hb
 exact absurd (Nat.lt_of_lt_of_le (Heap.lt_size ho) (Nat.le_trans I.sz h)) (Nat.lt_irrefl _)
theorem Inv.cne (I:Inv X pins σ H s):∀ x c,X.env.cells.lookup x=some c→c≠X.env.locals:=fun x c e z=>by
 obtain ⟨v,o,ho,hd⟩:=I.cell x c e
 obtain ⟨m,⟨o',es,ep,ho',hd',_⟩,_⟩:=I.loc
 rw [z,ho'] at ho;cases ho;rw [hd'] at hd;cases hd
theorem Inv.funs (I:Inv X pins σ H s):s.heap.FunFrames X.base X.outer:=by
 have all:∀ (l:List Env),(∀ b∈frs l,b∈X.fs)→X.s₀.heap.FunFrames X.base l→s.heap.FunFrames X.base l:=by
  intro l
  induction l with
  | nil=>intro _ _;trivial
  | cons env r ih=>
   intro hs hl
   obtain ⟨hk,⟨L,o,hf,hn,ho,hd⟩,hr⟩:=hl
   have hL:L∈X.fs:=hs L (by unfold frs;rw [List.filterMap_cons,hf];exact List.mem_cons_self)
   obtain ⟨sl,e⟩:=I.base.slot L o ho (I.ok.frf L hL) hL fun z=>I.ok.exfs L z hL
   exact ⟨hk,⟨L,_,hf,hn,e,hd⟩,ih (fun b hb=>hs b (by unfold frs;rw [List.filterMap_cons,hf];exact List.mem_cons_of_mem _ hb)) hr⟩
 exact all X.outer (fun _ hb=>hb) I.ok.funs
theorem Inv.stack (I:Inv X pins σ H s):s.heap.FunFrames X.base X.stack:=by
 rcases I.ok.stk with e | ⟨e,hf⟩
 ·rw [e];exact I.funs
 ·rw [e]
  obtain ⟨m,hn,_⟩:=I.loc
  refine .cons (by rw [I.ok.kind];decide) hf hn ?_ I.funs
  exact Heap.get?_none_of_le (Nat.le_trans I.ok.bsz I.ok.above)
theorem Inv.stkSub (I:Inv X pins σ H s):∀ b∈frs X.stack,b∈X.env.locals::X.fs:=fun b hb=>by
 rcases I.ok.stk with e | ⟨e,hf⟩
 ·rw [e] at hb;exact List.mem_cons_of_mem _ hb
 ·rw [e] at hb
  unfold frs at hb
  rw [List.filterMap_cons,hf] at hb
  exact hb
theorem Inv.stkFree (I:Inv X pins σ H s):∀ b∈frs X.stack,H b=none:=fun b hb=>by
 rcases List.mem_cons.mp (I.stkSub b hb) with e | hb
 ·rw [e];exact I.free
 ·obtain ⟨_,o,ho,_⟩:=I.ok.funs.mem hb
  exact I.base.free b o ho (I.ok.frf b hb) fun z=>I.ok.exfs b z hb
theorem Inv.step {g':Array GenState} {t':Nat} {d':Drawn} {ch:List Addr} (I:Inv X pins σ H s)
  (hch:∀ b∈ch,(b∈X.ex∨X.s₀.heap.objs.size≤b)∧b≠X.env.locals∧(∀ x c,X.env.cells.lookup x=some c→c≠b)∧∀ p∈X.pn++pins,p.1≠b)
  (keep:∀ b o,b≠X.env.locals→b ∉ X.fs→b ∉ ch→s.heap.get? b=some o→H b=none→h'.get? b=some o)
  (slot:∀ b o,b≠X.env.locals→b∈X.fs→b ∉ ch→s.heap.get? b=some o→H b=none→∃ sl,h'.get? b=some { o with slots:=sl }) (free:∀ b o,b ∉ ch→s.heap.get? b=some o→H b=none→H' b=none)
  (there:∀ b o,b ∉ ch→s.heap.get? b=some o→∃ o',h'.get? b=some o')
  (tups:∀ b xs,H b=some (.tup xs)→H' b=some (.tup xs)) (frzs:∀ b o u,H b=some (.frz o u)→H' b=some (.frz o u)) (tbls:∀ b ps,H b=some (.tbl ps)→∃ more,H' b=some (.tbl (ps++more)))
  (ns:∀ m,s.heap.Ns X.env.locals m→h'.Ns X.env.locals m) (hok:HOk X.prog X.w H' h') (hg:AllBare g') :
  Inv X pins σ H' { s with heap:=h',gens:=g',drawn:=d',toks:=t' }:=by
 have neL:∀ b o,X.s₀.heap.get? b=some o→b≠X.env.locals:=fun b o e=>Nat.ne_of_lt (Nat.lt_of_lt_of_le (Heap.lt_size e) I.ok.above)
 have neC:∀ b o,X.s₀.heap.get? b=some o→b ∉ X.ex→b ∉ ch:=fun b o e hx hb=>by
  rcases (hch b hb).1 with z | z
  ·exact hx z
  ·exact absurd (Nat.lt_of_lt_of_le (Heap.lt_size e) z) (Nat.lt_irrefl _)
 have cellK:∀ x c,X.env.cells.lookup x=some c→∀ v,s.heap.IsCell c v→h'.IsCell c v:=fun x c e v ⟨o,ho,hd⟩=>by
  have nch:c ∉ ch:=fun z=>(hch c z).2.2.1 x c e rfl
  by_cases hc:c∈X.fs
  ·obtain ⟨sl,q⟩:=slot c o (I.cne x c e) hc nch ho (I.freeC x c e)
   exact ⟨_,q,hd⟩
  ·exact ⟨o,keep c o (I.cne x c e) hc nch ho (I.freeC x c e),hd⟩
 refine ⟨I.ok,I.os,hg,⟨fun b o e n hb hx=>?_,fun b o e n hb hx=>?_,fun b o e n hx=>?_,fun b o e hx=>?_,fun b xs e=>tups b xs (I.base.tups b xs e),fun b o xs e=>frzs b o xs (I.base.frzs b o xs e),fun b ps e=>?_⟩,?_,fun x c e=>?_,?_,fun x c e=>?_,fun p hp=>?_,hok,I.len⟩
 ·exact keep b o (neL b o e) hb (neC b o e hx) (I.base.keep b o e n hb hx) (I.base.free b o e n hx)
 ·obtain ⟨sl,e1⟩:=I.base.slot b o e n hb hx
  obtain ⟨sl',e2⟩:=slot b _ (neL b o e) hb (neC b o e hx) e1 (I.base.free b o e n hx)
  exact ⟨sl',e2⟩
 ·obtain ⟨o',e1⟩:=I.base.there b o e hx
  exact free b o' (neC b o e hx) e1 (I.base.free b o e n hx)
 ·obtain ⟨o',e1⟩:=I.base.there b o e hx
  exact there b o' (neC b o e hx) e1
 ·obtain ⟨m1,e1⟩:=I.base.tbls b ps e
  obtain ⟨m2,e2⟩:=tbls b _ e1
  exact ⟨m1++m2,by rw [e2,Array.append_assoc]⟩
 ·obtain ⟨m,hn,hl⟩:=I.loc
  refine ⟨m,ns m hn,fun i x v e1 e2 e3=>?_⟩
  obtain ⟨u,r,l⟩:=hl i x v e1 e2 e3
  refine ⟨u,r,?_⟩
  rcases l with l | ⟨k,c,e,z⟩
  ·exact .inl l
  ·exact .inr ⟨k,c,e,cellK x c e _ z⟩
 ·obtain ⟨v,z⟩:=I.cell x c e
  exact ⟨v,cellK x c e v z⟩
 ·obtain ⟨m,⟨o,_,_,ho,_⟩,_⟩:=I.loc
  exact free _ o (fun z=>(hch _ z).2.1 rfl) ho I.free
 ·obtain ⟨v,o,ho,hd⟩:=I.cell x c e
  exact free c o (fun z=>(hch c z).2.2.1 x c e rfl) ho (I.freeC x c e)
 ·obtain ⟨e,n,ne,nf,d⟩:=I.pin p hp
  have nch:p.1 ∉ ch:=fun z=>(hch p.1 z).2.2.2 p hp rfl
  exact ⟨keep p.1 p.2 ne nf nch e n,free p.1 p.2 nch e n,ne,nf,d⟩
theorem Inv.un {t':Nat} (I:Inv X pins σ H s) (u:Un X.fs [] H H' s.heap h') (hok:HOk X.prog X.w H' h'):Inv X pins σ H' { s with heap:=h',toks:=t' }:=by
 obtain ⟨m,⟨o,es,ep,ho,r⟩,_⟩:=id I.loc
 obtain ⟨sl,hL⟩:=u.any ho I.free (by simp)
 exact I.step (g':=s.gens) (d':=s.drawn) (ch:=[]) (fun _ z=>nomatch z) (fun b o _ hb _ e n=>u.keep b o e n hb (by simp)) (fun b o _ hb _ e n=>u.slot b o e n hb (by simp)) (fun b o _ e n=>u.free b o e n (by simp)) (fun b o _ e=>u.there b o e (by simp)) u.tups u.frzs u.tbls (fun m' hm=>by
  obtain ⟨o',es',ep',ho',r'⟩:=hm
  rw [ho] at ho';cases ho'
  exact ⟨_,es',ep',hL,r'⟩) hok I.bare
theorem Inv.call {g':Array GenState} {t':Nat} {d':Drawn} {ch:List Addr} (I:Inv X pins σ H s) (u:Un (frs X.stack) ch H H' s.heap h') (hok:HOk X.prog X.w H' h') (hg:AllBare g')
  (hch:∀ b∈ch,(b∈X.ex∨X.s₀.heap.objs.size≤b)∧b≠X.env.locals∧(∀ x c,X.env.cells.lookup x=some c→c≠b)∧∀ p∈X.pn++pins,p.1≠b) :
  Inv X pins σ H' { s with heap:=h',gens:=g',drawn:=d',toks:=t' }:=by
 obtain ⟨m,⟨o,es,ep,ho,r⟩,_⟩:=id I.loc
 obtain ⟨sl,hL⟩:=u.any ho I.free fun z=>(hch _ z).2.1 rfl
 exact I.step (ch:=ch) hch (fun b o hL hb hc e n=>u.keep b o e n (fun z=>(List.mem_cons.mp (I.stkSub b z)).elim hL hb) hc) (fun b o _ _ hc e n=>u.any e n hc) (fun b o hc e n=>u.free b o e n hc) (fun b o hc e=>u.there b o e hc) u.tups u.frzs u.tbls (fun m' hm=>by
  obtain ⟨o',es',ep',ho',r'⟩:=hm
  rw [ho] at ho';cases ho'
  exact ⟨_,es',ep',hL,r'⟩) hok hg
theorem Inv.turned {t':Nat} {it:Addr} (I:Inv X pins σ H s) (k:∀ b o,b≠it→s.heap.get? b=some o→h'.get? b=some o) (hn:H it=none) (hL:it≠X.env.locals)
  (h1:it∈X.ex∨X.s₀.heap.objs.size≤it) (h2:∀ x c,X.env.cells.lookup x=some c→c≠it) (h3:∀ p∈X.pn++pins,p.1≠it):Inv X pins σ H { s with heap:=h',toks:=t' }:=by
 have nit:∀ b u,H b=some u→b≠it:=fun b u e z=>by rw [z,hn] at e;cases e
 refine I.step (g':=s.gens) (d':=s.drawn) (ch:=[it]) (fun b hb=>?_) (fun b o _ _ hc e _=>k b o (fun z=>hc (by simp [z])) e) (fun b o _ _ hc e _=>⟨o.slots,k b o (fun z=>hc (by simp [z])) e⟩) (fun _ _ _ _ n=>n)
  (fun b o hc e=>⟨o,k b o (fun z=>hc (by simp [z])) e⟩) (fun _ _ e=>e) (fun _ _ _ e=>e) (fun b ps e=>⟨#[],by rw [e];simp⟩) (fun m hm=>?_) (fun b u e=>?_) I.bare
 ·have e:b=it:=by simpa using hb
  subst e
  exact ⟨h1,hL,h2,h3⟩
 ·obtain ⟨o,es,ep,ho,r⟩:=hm
  exact ⟨o,es,ep,k _ o (Ne.symm hL) ho,r⟩
 ·refine (I.hok b u e).stay (fun c v hc q=>k c v ?_ q) (fun _ q=>q) fun _ _ q=>q
  rcases hc with z | z
  ·rw [z];exact nit b u e
  ·exact nit c _ z
theorem Inv.tok (I:Inv X pins σ H s) (t:Nat):Inv X pins σ H { s with toks:=t }:=I.un (h':=s.heap) (t':=t) Un.refl I.hok
theorem Inv.kept {t':Nat} (I:Inv X pins σ H s) (k:∀ b u,s.heap.get? b=some u→h'.get? b=some u):Inv X pins σ H { s with heap:=h',toks:=t' }:=I.un (Un.kept k) (I.hok.kept k)
theorem Inv.laid {a:Addr} {o:HO} {t':Nat} (I:Inv X pins σ H s) (k:∀ b u,s.heap.get? b=some u→h'.get? b=some u) (hp:s.heap.objs.size≤a) (new:ObjOk X.prog X.w (upd H a o) h' a o) :
  Inv X pins σ (upd H a o) { s with heap:=h',toks:=t' }:=I.un (Un.laid k hp (I.hok.fresh hp)) (I.hok.laid k hp new)
theorem Inv.write {x e:Addr} {o:HO} {t':Nat} (I:Inv X pins σ H s) (mu:Mut (H x)) (he:e=x∨H e=some (.own x)) (k:∀ b u,b≠e→s.heap.get? b=some u→h'.get? b=some u) (heo:∃ u,h'.get? e=some u)
  (new:ObjOk X.prog X.w (upd H x o) h' x o):Inv X pins σ (upd H x o) { s with heap:=h',toks:=t' }:=I.un (Un.write mu he k heo) (I.hok.write mu he k heo new)
theorem Inv.weak {σ':List (Option V)} (I:Inv X pins σ H s) (hl:σ'.length=σ.length) (w:∀ (i:Nat) v,σ'[i]?=some (some v)→σ[i]?=some (some v)):Inv X pins σ' H s:=
 ⟨I.ok,I.os,I.bare,I.base,let ⟨m,hn,hl'⟩:=I.loc;⟨m,hn,fun i x v e1 e2 e3=>hl' i x v e1 (w i v e2) e3⟩,I.cell,I.free,I.freeC,I.pin,I.hok,hl.trans I.len⟩
theorem Inv.pins_of {pins':List (Addr × Obj)} (I:Inv X pins σ H s) (h:∀ p∈pins',s.heap.get? p.1=some p.2∧H p.1=none∧p.1≠X.env.locals∧p.1 ∉ X.fs∧∀ v,p.2.data≠.cell v):Inv X pins' σ H s:=
 ⟨I.ok,I.os,I.bare,I.base,I.loc,I.cell,I.free,I.freeC,fun p hp=>(List.mem_append.mp hp).elim (fun z=>I.pin p (List.mem_append_left _ z)) (h p),I.hok,I.len⟩
theorem q3d {N:List Str} (hN:N.Nodup) {i j:Nat} {x:Str} (a:N[i]?=some x) (b:N[j]?=some x):i=j:=by
 obtain ⟨h1,e1⟩:=List.getElem?_eq_some_iff.mp a
 obtain ⟨h2,e2⟩:=List.getElem?_eq_some_iff.mp b
 exact (List.getElem_inj hN).mp (e1.trans e2.symm)
theorem q5r {M:Model} {A:Around} {E:Value→Shared→Prop} {i:Nat} {x:Str} {v:V} {u:Value} {Q:Unit→Shared→Prop} (I:Inv X pins σ H s) (hN:X.N.Nodup) (hi:X.N[i]?=some x) (hx:Loc X.env.scope x) (r:RelV v u)
  (h:∀ s',Inv X pins (σ.set i (some v)) H s'→(∃ a,Heap.SameBut a s.heap s'.heap∧(a=X.env.locals∨X.env.cells.lookup x=some a))→Q () s') (hf:X.fn x=true∨X.env.scope.names.lookup x=some .local:=by first | exact .inl rfl | exact .inr rfl | assumption):wpAny M A (storeName X.env x u) Q E s:=by
 obtain ⟨m,hn,hl⟩:=id I.loc
 have hcls:(X.env.scope.kind == .class || (X.env.scope.kind == .module && X.env.locals != X.env.globals))=false:=by rw [I.ok.kind];rfl
 have hiσ:i < σ.length:=by rw [I.len];exact (List.getElem?_eq_some_iff.mp hi).1
 have cne:=I.cne
 have tracked:∀ {a:Addr} {h':Heap},(∃ o,s.heap.get? a=some o∧H a=none)→Heap.SameBut a s.heap h'→HOk X.prog X.w H h':=fun {a h'} ha hs b ob e=>by
  obtain ⟨_,_,hfree⟩:=ha
  refine (I.hok b ob e).stay (fun c w' hc q=>(hs.2 c ?_).trans q) (fun _ q=>q) fun _ _ q=>q
  rintro rfl
  rcases hc with rfl | hc
  ·rw [hfree] at e;cases e
  ·rw [hfree] at hc;cases hc
 rcases hx with hk | hk
 ·refine wpAny_storeName_local hk hn (fun h' hn' hs=>?_) hcls
  obtain ⟨oL,_,_,hoL,_⟩:=id hn
  refine h _ ⟨I.ok,I.os,I.bare,⟨fun b o e n hb hx=>?_,fun b o e n hb hx=>?_,I.base.free,fun b o e hx=>?_,I.base.tups,I.base.frzs,I.base.tbls⟩,⟨_,hn',fun j y v' e1 e2 e3=>?_⟩,fun y c e=>?_,I.free,I.freeC,fun p hp=>?_,tracked ⟨oL,hoL,I.free⟩ hs,by simpa using I.len⟩ ⟨_,hs,.inl rfl⟩
  ·exact (hs.2 b (Nat.ne_of_lt (Nat.lt_of_lt_of_le (Heap.lt_size e) I.ok.above))).trans (I.base.keep b o e n hb hx)
  ·obtain ⟨sl,e1⟩:=I.base.slot b o e n hb hx
   exact ⟨sl,(hs.2 b (Nat.ne_of_lt (Nat.lt_of_lt_of_le (Heap.lt_size e) I.ok.above))).trans e1⟩
  ·obtain ⟨o',e1⟩:=I.base.there b o e hx
   exact ⟨o',(hs.2 b (Nat.ne_of_lt (Nat.lt_of_lt_of_le (Heap.lt_size e) I.ok.above))).trans e1⟩
  ·by_cases hj:j=i
   ·subst hj
    rw [hi] at e1;cases e1
    rw [List.getElem?_set_self hiσ] at e2
    cases e2
    exact ⟨u,r,.inl ⟨hk,by simp⟩⟩
   ·rw [List.getElem?_set_ne (Ne.symm hj)] at e2
    obtain ⟨u',r',q⟩:=hl j y v' e1 e2 e3
    refine ⟨u',r',?_⟩
    rcases q with ⟨k,e⟩ | ⟨k,c,e,z⟩
    ·refine .inl ⟨k,?_⟩
     have:y≠x:=fun e=>hj (q3d hN e1 (e ▸ hi))
     simp [this,e]
    ·exact .inr ⟨k,c,e,z.sameBut hs (cne y c e)⟩
  ·obtain ⟨w',z⟩:=I.cell y c e
   exact ⟨w',z.sameBut hs (cne y c e)⟩
  ·obtain ⟨e,n,ne,nf,d⟩:=I.pin p hp
   exact ⟨(hs.2 p.1 ne).trans e,n,ne,nf,d⟩
 ·have hfn:X.fn x=true:=by
   rcases hf with z | z
   ·exact z
   ·rw [z] at hk;cases hk
  obtain ⟨c,hc⟩:=I.ok.has x (.inl hk)
  obtain ⟨w',z⟩:=I.cell x c hc
  refine wpAny_storeName_cell I.ok.kind hk hc z (fun h' hc' hs=>?_)
  obtain ⟨oc,hoc,hocd⟩:=id z
  refine h { s with heap:=h' } ⟨I.ok,I.os,I.bare,⟨fun b o e n hb hx=>?_,fun b o e n hb hx=>?_,I.base.free,fun b o e hx=>?_,I.base.tups,I.base.frzs,I.base.tbls⟩,⟨m,hn.sameBut hs (Ne.symm (cne x c hc)),fun j y v' e1 e2 e3=>?_⟩,fun y c' e=>?_,I.free,I.freeC,fun p hp=>?_,tracked ⟨oc,hoc,I.freeC x c hc⟩ hs,by simpa using I.len⟩ ⟨c,hs,.inr hc⟩
  ·exact (hs.2 b (Nat.ne_of_lt (Nat.lt_of_lt_of_le (Heap.lt_size e) (I.ok.cab x c hfn hc)))).trans (I.base.keep b o e n hb hx)
  ·obtain ⟨sl,e1⟩:=I.base.slot b o e n hb hx
   exact ⟨sl,(hs.2 b (Nat.ne_of_lt (Nat.lt_of_lt_of_le (Heap.lt_size e) (I.ok.cab x c hfn hc)))).trans e1⟩
  ·obtain ⟨o',e1⟩:=I.base.there b o e hx
   exact ⟨o',(hs.2 b (Nat.ne_of_lt (Nat.lt_of_lt_of_le (Heap.lt_size e) (I.ok.cab x c hfn hc)))).trans e1⟩
  ·by_cases hj:j=i
   ·subst hj
    rw [hi] at e1;cases e1
    rw [List.getElem?_set_self hiσ] at e2
    cases e2
    exact ⟨u,r,.inr ⟨.inl hk,c,hc,hc'⟩⟩
   ·rw [List.getElem?_set_ne (Ne.symm hj)] at e2
    obtain ⟨u',r',q⟩:=hl j y v' e1 e2 e3
    refine ⟨u',r',?_⟩
    rcases q with q | ⟨k,c',e,z'⟩
    ·exact .inl q
    ·refine .inr ⟨k,c',e,z'.sameBut hs ?_⟩
     rintro rfl
     exact hj (q3d hN e1 (I.ok.inj _ _ _ e hc ▸ hi))
  ·by_cases hcc:c'=c
   ·subst hcc;exact ⟨_,hc'⟩
   ·obtain ⟨w2,z2⟩:=I.cell y c' e
    exact ⟨w2,z2.sameBut hs hcc⟩
  ·obtain ⟨e,n,ne,nf,d⟩:=I.pin p hp
   refine ⟨(hs.2 p.1 ?_).trans e,n,ne,nf,d⟩
   intro q
   rw [q,hoc] at e
   have q':oc=p.2:=Option.some.inj e
   exact d w' (by rw [← q'];exact hocd)
theorem q58 {M:Model} {A:Around} {E:Value→Shared→Prop} {i:Nat} {x:Str} {v:V} {u:Value} {Q:Unit→Shared→Prop} (I:Inv X pins σ H s) (hN:X.N.Nodup) (hi:X.N[i]?=some x) (hx:Loc X.env.scope x) (r:RelV v u)
  (h:∀ s',Inv X pins (σ.set i (some v)) H s'→Q () s') (hf:X.fn x=true∨X.env.scope.names.lookup x=some .local:=by first | exact .inl rfl | exact .inr rfl | assumption):wpAny M A (storeName X.env x u) Q E s:=
 q5r I hN hi hx r (fun s' I' _=>h s' I') hf
theorem Inv.call' {s':Shared} {ch:List Addr} (I:Inv X pins σ H s) (ho:s'.os=s.os) (u:Un (frs X.stack) ch H H' s.heap s'.heap) (hok:HOk X.prog X.w H' s'.heap) (hg:AllBare s'.gens)
  (hch:∀ b∈ch,(b∈X.ex∨X.s₀.heap.objs.size≤b)∧b≠X.env.locals∧(∀ x c,X.env.cells.lookup x=some c→c≠b)∧∀ p∈X.pn++pins,p.1≠b):Inv X pins σ H' s':=by
 obtain ⟨h',g',d',t',o'⟩:=s'
 have e:o'=s.os:=ho
 subst e
 exact I.call (g':=g') (t':=t') (d':=d') u hok hg hch
end
abbrev XK:=Value→Option Addr→Hp→Prop
abbrev St:=List (Option V)
abbrev VK:=V→Hp→Prop
abbrev TE:=St→Hp→VK→Prop
abbrev TT:=St→Hp→(Bool→Hp→Prop)→Prop
abbrev TA:=St→Hp→(List V→Hp→Prop)→Prop
structure Ends where
 nx:St→Hp→Prop
 rt:VK
 bk:St→Hp→Prop:=fun _ _=>False
 ct:St→Hp→Prop:=fun _ _=>False
abbrev TS:=Ends→St→Hp→Prop
def EP (X:Cx) (pins:List (Addr × Obj)) (σ:St) (Q:VK) (u:Value) (s':Shared):Prop:=∃ v H',Inv X pins σ H' s'∧RelV v u∧Q v H'
def TP (X:Cx) (pins:List (Addr × Obj)) (σ:St) (Q:Bool→Hp→Prop) (b:Bool) (s':Shared):Prop:=∃ H',Inv X pins σ H' s'∧Q b H'
def AP (X:Cx) (pins:List (Addr × Obj)) (σ:St) (Q:List V→Hp→Prop) (us:List Value) (s':Shared):Prop:=∃ vs H',Inv X pins σ H' s'∧Vals vs us∧Q vs H'
def SP (X:Cx) (pins:List (Addr × Obj)) (D:Ends) (f:Flow) (s':Shared):Prop:=
 match f with
 | .next=>∃ σ' H',Inv X pins σ' H' s'∧D.nx σ' H'
 | .brk=>∃ σ' H',Inv X pins σ' H' s'∧D.bk σ' H'
 | .cont=>∃ σ' H',Inv X pins σ' H' s'∧D.ct σ' H'
 | .ret u=>∃ v σ' H',Inv X pins σ' H' s'∧RelV v u∧D.rt v H'
def PE (X:Cx) (e:Expr) (t:TE):Prop:=
 ∀ (pins:List (Addr × Obj)) (s:Shared) (σ:St) (H:Hp) (Q:VK),Inv X pins σ H s→t σ H Q→wpAny (model X.prog X.w) X.A (eval e X.env) (EP X pins σ Q) X.xe s
def PT (X:Cx) (e:Expr) (t:TT):Prop:=
 ∀ (pins:List (Addr × Obj)) (s:Shared) (σ:St) (H:Hp) (Q:Bool→Hp→Prop),Inv X pins σ H s→t σ H Q→wpAny (model X.prog X.w) X.A (isTrue e X.env (eval e X.env)) (TP X pins σ Q) X.xe s
def PW (X:Cx) (e:Expr) (t:TT):Prop:=
 ∀ (whole:Sem Value) (pins:List (Addr × Obj)) (s:Shared) (σ:St) (H:Hp) (Q:Bool→Hp→Prop),Inv X pins σ H s→t σ H Q→wpAny (model X.prog X.w) X.A (isTrue e X.env whole) (TP X pins σ Q) X.xe s
theorem PW.pt {X:Cx} {e:Expr} {t:TT} (h:PW X e t):PT X e t:=h _
def PA (X:Cx) (es:List Expr) (t:TA):Prop:=
 ∀ (pos:Pos) (pins:List (Addr × Obj)) (s:Shared) (σ:St) (H:Hp) (Q:List V→Hp→Prop),Inv X pins σ H s→t σ H Q→wpAny (model X.prog X.w) X.A (spliced (backTo pos (starEach es X.env))) (AP X pins σ Q) X.xe s
def PS (X:Cx) (st:Stmt) (t:TS):Prop:=
 ∀ (pins:List (Addr × Obj)) (s:Shared) (σ:St) (H:Hp) (D:Ends),Inv X pins σ H s→t D σ H→wpAny (model X.prog X.w) X.A (exec st X.env) (SP X pins D) X.xe s
def PSs (X:Cx) (st:List Stmt) (t:TS):Prop:=
 ∀ (pins:List (Addr × Obj)) (s:Shared) (σ:St) (H:Hp) (D:Ends),Inv X pins σ H s→t D σ H→wpAny (model X.prog X.w) X.A (execs st X.env) (SP X pins D) X.xe s
theorem q0t {X:Cx} {pins:List (Addr × Obj)} {σ:St} {Q:VK} {u:Value} {s':Shared} {C:Prop} (z:EP X pins σ Q u s') (k:∀ (v:V) (H':Hp),Inv X pins σ H' s'→RelV v u→Q v H'→C):C:=by
 obtain ⟨v,H',I,r,q⟩:=z
 exact k v H' I r q
theorem q3t {X:Cx} {pins:List (Addr × Obj)} {σ:St} {Q:List V→Hp→Prop} {us:List Value} {s':Shared} {C:Prop} (z:AP X pins σ Q us s') (k:∀ (vs:List V) (H':Hp),Inv X pins σ H' s'→Vals vs us→Q vs H'→C):C:=by
 obtain ⟨v,H',I,r,q⟩:=z
 exact k v H' I r q
theorem thn {α:Type} {t:Sem α} {Q Q':α→Shared→Prop} {M:Model} {A:Around} {E:Value→Shared→Prop} {s:Shared} (h:wpAny M A t Q E s) (hQ:∀ a s,Q a s→Q' a s):wpAny M A t Q' E s:=wpAny_mono h hQ fun _ _ x=>x
end L2
namespace L2
open PySem PySem.Spec PyProof.Rows
section
variable {X:Cx}
inductive tVarI (i:Nat) (σ:St) (H:Hp) (Q:VK):Prop
 | mk (v:V):(σ[i]?=some (some v))→(Q v H)→tVarI i σ H Q
def tVar (i:Nat):TE:=fun σ H Q=>tVarI i σ H Q
def tC (v:V):TE:=fun _ H Q=>Q v H
theorem pe_var {i:Nat} {x:Str} {pos:Pos} (hN:X.N[i]?=some x) (hv:Vis X.env.scope x) (hd:(x == ("__debug__" : Str))=false:=by decide) (hcd:(x == ("__classdict__" : Str))=false:=by decide):PE X (.Name x pos) (tVar i):=by
 intro pins s σ H Q I h
 obtain ⟨v,e,h⟩:=h
 obtain ⟨m,hn,hl⟩:=I.loc
 obtain ⟨u,r,l⟩:=hl i x v hN e hv
 have fin:EP X pins σ Q u s:=⟨v,H,I,r,h⟩
 rcases l with ⟨hk,hm⟩ | ⟨hk,c,hc,hcell⟩
 ·exact wpAny_Name (wpAny_loadName_local I.ok.kind hk hn hm fin) hd
 ·rcases hk with hk | hk
  ·exact wpAny_Name (wpAny_loadName_cell I.ok.kind hk hc hcell fin) hd
  ·exact wpAny_Name (wpAny_loadName_free I.ok.kind hk hc hcell fin hcd) hd
theorem q07 {i j pos}:PE X (.Constant (.int i) j pos) (tC (.int i)):=fun _ _ _ H _ I h=>wpAny_Constant_int ⟨.int i,H,I.tok _,⟨_,rfl⟩,h⟩
theorem pe_bl {b j pos}:PE X (.Constant (.bool b) j pos) (tC (.bl b)):=fun _ _ _ H _ I h=>Constant_bool ⟨.bl b,H,I,rfl,h⟩
theorem q6e {j pos}:PE X (.Constant .none j pos) (tC .non):=fun _ _ _ H _ I h=>Constant_none ⟨.non,H,I,rfl,h⟩
theorem q0x {x j pos}:PE X (.Constant (.str x) j pos) (tC (.str x)):=fun _ _ _ H _ I h=>Calls.Constant_str ⟨.str x,H,I.tok _,⟨_,rfl⟩,h⟩
def Gl (X:Cx) (x:Str):Prop:=X.env.kindOf x=some .globalImplicit
theorem q4t {E:Value→Shared→Prop} {pins:List (Addr × Obj)} {s:Shared} {σ:St} {H:Hp} {x:Str} {u:Value} {pos:Pos} {Q:Value→Shared→Prop} (I:Inv X pins σ H s) (hg:Gl X x) (hm:X.mg x=some u) (h:Q u s)
  (hd:(x == ("__debug__" : Str))=false:=by decide):wpAny (model X.prog X.w) X.A (eval (.Name x pos) X.env) Q E s:=
 Calls.Name_function_global I.ok.kind hg (Calls.loadGlobal_global (by rw [I.ok.glob];exact I.mod.glob.keeps I.bk) hm h) hd
theorem q2s {E:Value→Shared→Prop} {pins:List (Addr × Obj)} {s:Shared} {σ:St} {H:Hp} {x:Str} {u:Value} {pos:Pos} {Q:Value→Shared→Prop} (I:Inv X pins σ H s) (hg:Gl X x) (hm:X.mg x=none) (hv:bootBuiltins x=some u) (h:Q u s)
  (hn:x ≠ "__name__" := by decide) (hd:(x == ("__debug__" : Str))=false:=by decide):wpAny (model X.prog X.w) X.A (eval (.Name x pos) X.env) Q E s:=by
 obtain ⟨mb,h1,h2⟩:=I.mod.blt
 exact Calls.Name_function_global I.ok.kind hg (Calls.loadGlobal_builtin (by rw [I.ok.glob];exact I.mod.glob.keeps I.bk) hm (by rw [I.ok.blt];exact h1.keeps I.bk) ((h2 x hn).trans hv) h) hd
theorem q0l {x:Str} {v:V} {u:Value} {pos:Pos} (hg:Gl X x) (hm:X.mg x=some u) (r:RelV v u) (hd:(x == ("__debug__" : Str))=false:=by decide):PE X (.Name x pos) (tC v):=
 fun _ _ _ H _ I h=>q4t I hg hm ⟨v,H,I,r,h⟩ hd
theorem pe_bltn {x:Str} {v:V} {u:Value} {pos:Pos} (hg:Gl X x) (hm:X.mg x=none) (hv:bootBuiltins x=some u) (r:RelV v u) (hn:x ≠ "__name__" := by decide) (hd:(x == ("__debug__" : Str))=false:=by decide):PE X (.Name x pos) (tC v):=
 fun _ _ _ H _ I h=>q2s I hg hm hv ⟨v,H,I,r,h⟩ hn hd
variable {a b:Expr} {ta tb:TE} {pos:Pos}
def PC (X:Cx) (op:CmpOp) (a b:Expr) (t:TE):Prop:=
 ∀ (pins:List (Addr × Obj)) (s:Shared) (σ:St) (H:Hp) (Q:VK),Inv X pins σ H s→t σ H Q→
  wpAny (model X.prog X.w) X.A (eval a X.env) (fun v s₁=>wpAny (model X.prog X.w) X.A (eval b X.env) (fun u s₂=>wpAny (model X.prog X.w) X.A (compareOp op v u) (EP X pins σ Q) X.xe s₂) X.xe s₁) X.xe s
theorem nobehind (b:Expr) {op:CmpOp} (h:op≠.In) (h2:op≠.NotIn):behindInMarks op b=false:=by
 have e1:(op == CmpOp.In)=false:=by cases op <;> first | rfl | exact absurd rfl h
 have e2:(op == CmpOp.NotIn)=false:=by cases op <;> first | rfl | exact absurd rfl h2
 cases b <;> simp [behindInMarks,e1,e2]
def tIsN (ta:TE):TE:=fun σ H Q=>ta σ H fun x H1=>Q (.bl (decide (x=.non))) H1
def tNotN (ta:TE):TE:=fun σ H Q=>ta σ H fun x H1=>Q (.bl (!decide (x=.non))) H1
theorem RelV.none_iff {x:V} {v:Value} (r:RelV x v):(v == Value.none)=decide (x=.non):=by
 cases x with
 | non=>cases r;rfl
 | bl _=>cases r;rfl
 | int _=>obtain ⟨t,rfl⟩:=r;rfl
 | str _=>obtain ⟨t,rfl⟩:=r;rfl
 | byt _=>obtain ⟨t,rfl⟩:=r;rfl
 | flt _=>obtain ⟨t,rfl⟩:=r;rfl
 | ref _=>cases r;rfl
 | ty _=>cases r;rfl
theorem z19 {j pos'} (ha:PE X a ta):PC X .Is a (.Constant .none j pos') (tIsN ta):=by
 intro pins s σ H Q I h
 refine thn (ha pins s σ H _ I h) fun v s1 zz3=>q0t zz3 fun x H1 I1 r1 q1=>?_
 exact Constant_none (is_none_gen ⟨.bl _,H1,I1,by rw [r1.none_iff];rfl,q1⟩)
theorem pc_notN {j pos'} (ha:PE X a ta):PC X .IsNot a (.Constant .none j pos') (tNotN ta):=by
 intro pins s σ H Q I h
 refine thn (ha pins s σ H _ I h) fun v s1 zz4=>q0t zz4 fun x H1 I1 r1 q1=>?_
 exact Constant_none (isnot_none_gen ⟨.bl _,H1,I1,by rw [r1.none_iff];rfl,q1⟩)
def tB (t:TE):TT:=fun σ H Q=>t σ H fun x H1=>∃ c,x=.bl c∧Q c H1
theorem q4m {op:CmpOp} {t:TE} (h:PC X op a b t) (h1:behindInMarks op b=false:=by first | exact nobehind _ (by decide) (by decide) | rfl):PT X (.Compare a [op] [b] pos) (tB t):=by
 intro pins s σ H Q I hw
 refine wpAny_isTrue_Compare1 (thn (h pins s σ H _ I hw) fun v s1 h1=>thn h1 fun u s2 h2=>thn h2 fun c s3 zz5=>q0t zz5 fun x H1 I1 r1 q1=>?_) h1
 obtain ⟨d,rfl,q⟩:=q1
 cases r1
 exact wpAny_truthy_bool ⟨H1,I1,q⟩
theorem q1t {e:Expr} {t:TE} (h:PE X e t) (he:∀ whole,isTrue e X.env whole=(do let v ← whole;standAt e.pos;holding [v] (truthy v)):=by intro _;rfl):PT X e (tB t):=by
 intro pins s σ H Q I hw
 refine isTrue_plain (thn (h pins s σ H _ I hw) fun v s1 zz6=>q0t zz6 fun x H1 I1 r1 q1=>?_) (he _)
 obtain ⟨d,rfl,q⟩:=q1
 cases r1
 exact wpAny_truthy_bool ⟨H1,I1,q⟩
variable {tA tB':TT} {rest:List Expr}
def tAnd (t u:TT):TT:=fun σ H Q=>t σ H fun c H1=>if c=true then u σ H1 Q else Q false H1
def tOr (t u:TT):TT:=fun σ H Q=>t σ H fun c H1=>if c=true then Q true H1 else u σ H1 Q
def tNot (t:TT):TT:=fun σ H Q=>t σ H fun c H1=>Q (!c) H1
theorem q7m (ha:PT X a tA):PW X (.BoolOp .And [a] pos) tA:=by
 intro wh pins s σ H Q I h
 refine isTrue_and (thn (ha pins s σ H Q I h) fun c s1 e=>?_)
 cases c with
 | true=>exact isTrue_and_nil e
 | false=>exact e
theorem pw_or1 (ha:PT X a tA):PW X (.BoolOp .Or [a] pos) tA:=by
 intro wh pins s σ H Q I h
 refine isTrue_or (thn (ha pins s σ H Q I h) fun c s1 e=>?_)
 cases c with
 | false=>exact isTrue_or_nil e
 | true=>exact e
theorem q4z (ha:PT X a tA) (hb:PW X (.BoolOp .And (b::rest) pos) tB'):PW X (.BoolOp .And (a::b::rest) pos) (tAnd tA tB'):=by
 intro wh pins s σ H Q I h
 refine isTrue_and (thn (ha pins s σ H _ I h) fun c s1 ⟨H1,I1,q1⟩=>?_)
 cases c with
 | true=>exact hb wh pins s1 σ H1 Q I1 q1
 | false=>exact ⟨H1,I1,q1⟩
theorem pw_or (ha:PT X a tA) (hb:PW X (.BoolOp .Or (b::rest) pos) tB'):PW X (.BoolOp .Or (a::b::rest) pos) (tOr tA tB'):=by
 intro wh pins s σ H Q I h
 refine isTrue_or (thn (ha pins s σ H _ I h) fun c s1 ⟨H1,I1,q1⟩=>?_)
 cases c with
 | true=>exact ⟨H1,I1,q1⟩
 | false=>exact hb wh pins s1 σ H1 Q I1 q1
theorem q32 (ha:PT X a tA):PT X (.UnaryOp .Not a pos) (tNot tA):=by
 intro pins s σ H Q I h
 exact isTrue_not (ha pins s σ H (fun c H1=>Q (!c) H1) I h)
def tAndV (ta tb:TE):TE:=fun σ H Q=>ta σ H fun x H1=>∃ c,x=.bl c∧if c=true then tb σ H1 Q else Q (.bl false) H1
theorem pe_one {op} {t:TE} (h:PE X a t):PE X (.BoolOp op [a] pos) t:=fun pins s σ H Q I hw=>BoolOp_one (h pins s σ H Q I hw)
theorem z18 (ha:PE X a ta) (hb:PE X (.BoolOp .And (b::rest) pos) tb):PE X (.BoolOp .And (a::b::rest) pos) (tAndV ta tb):=by
 intro pins s σ H Q I h
 refine BoolOp_and (thn (ha pins s σ H _ I h) fun v s1 zz7=>q0t zz7 fun x H1 I1 r1 q1=>?_)
 obtain ⟨c,rfl,q1⟩:=q1
 cases r1
 refine wpAny_truthy_bool ?_
 cases c with
 | true=>exact hb pins s1 σ H1 Q I1 q1
 | false=>exact ⟨.bl false,H1,I1,rfl,q1⟩
end
end L2
namespace L2
open PySem PySem.Spec PyProof.Rows
def SqL (K:W.Frag) (H:Hp) (a:Addr) (xs:List V):Prop:=
 Rd H a (.lst xs)∨
  ∃ (o:Obj) (its:Array Value) (n:Nat),K.lookup a=some o∧o.cls=.type "list" ∧ o.dict=none∧o.data=.seq its n∧its.size≤sizeLine∧Vals xs its.toList
def SqT (K:W.Frag) (H:Hp) (a:Addr) (xs:List V):Prop:=
 Rd H a (.tup xs)∨
  ∃ (o:Obj) (its:Array Value) (n:Nat),K.lookup a=some o∧o.cls=.type "tuple" ∧ o.data=.seq its n∧its.size≤sizeLine∧Vals xs its.toList
def absV:Value→Option V
 | .none=>some .non
 | .bool b=>some (.bl b)
 | .int i _=>some (.int i)
 | .str x _=>some (.str x)
 | .bytes b _=>some (.byt b)
 | .float b _=>some (.flt b)
 | .ref a=>some (.ref a)
 | .type n=>some (.ty n)
 | _=>none
theorem RelV.abs {x:V} {u:Value} (r:RelV x u):absV u=some x:=by
 cases x with
 | non=>cases r;rfl
 | bl _=>cases r;rfl
 | int _=>obtain ⟨t,rfl⟩:=r;rfl
 | str _=>obtain ⟨t,rfl⟩:=r;rfl
 | byt _=>obtain ⟨t,rfl⟩:=r;rfl
 | flt _=>obtain ⟨t,rfl⟩:=r;rfl
 | ref _=>cases r;rfl
 | ty _=>cases r;rfl
theorem RelV.inj {x y:V} {u:Value} (r:RelV x u) (q:RelV y u):x=y:=Option.some.inj (r.abs.symm.trans q.abs)
theorem Vals.inj:∀ {xs ys:List V} {us:List Value},Vals xs us→Vals ys us→xs=ys
 | _,_,_,.nil,.nil=>rfl
 | _,_,_,.cons r t,.cons r' t'=>by rw [r.inj r',Vals.inj t t']
section
variable {X:Cx} {pins:List (Addr × Obj)} {σ:St} {H:Hp} {s:Shared} {a:Addr} {xs ys:List V}
theorem SqL.of {K:W.Frag} (h:H a=some (.lst xs)):SqL K H a xs:=.inl (.inl h)
theorem SqT.of {K:W.Frag} (h:H a=some (.tup xs)):SqT K H a xs:=.inl (.inl h)
theorem Inv.list (I:Inv X pins σ H s) (h:SqL X.K H a xs):∃ its:List Value,Vals xs its∧PlainL s.heap a its.toArray∧xs.length≤sizeLine:=by
 rcases h with h | ⟨o,its,n,hk,hc,hd,hs,hz,r⟩
 ·obtain ⟨z,its,n,r,e⟩:=h.ok I.hok
  exact ⟨its,r,⟨_,n,e,rfl,rfl,rfl⟩,z⟩
 ·refine ⟨its.toList,r,⟨o,n,I.kIn a o hk,hc,hd,by simpa using hs⟩,?_⟩
  have e:=r.length
  simp only [Array.length_toList] at e
  omega
theorem Inv.tuple (I:Inv X pins σ H s) (h:SqT X.K H a xs):∃ its:List Value,Vals xs its∧IsTup s.heap a its.toArray∧xs.length≤sizeLine:=by
 rcases h with h | ⟨o,its,n,hk,hc,hs,hz,r⟩
 ·obtain ⟨z,its,r,p⟩:=h.ok I.hok
  exact ⟨its,r,p,z⟩
 ·refine ⟨its.toList,r,⟨o,I.kIn a o hk,hc,n,by simpa using hs⟩,?_⟩
  have e:=r.length
  simp only [Array.length_toList] at e
  omega
theorem Inv.list_inj (I:Inv X pins σ H s) (h:SqL X.K H a xs) (h':SqL X.K H a ys):xs=ys:=by
 obtain ⟨its,r,⟨o,n,e,_,_,d⟩,_⟩:=I.list h
 obtain ⟨its',r',⟨o',n',e',_,_,d'⟩,_⟩:=I.list h'
 rw [e] at e';cases e'
 rw [d] at d'
 injection d' with d1 _
 have:its=its':=by simpa using congrArg Array.toList d1
 subst this
 exact r.inj r'
end
abbrev Cx.wish (X:Cx) (E:Value→Shared→Prop):Cx:={ X with xe:=E }
abbrev Cx.nox (X:Cx):Cx:=X.wish fun _ _=>False
theorem Cx.Ok.wish {X:Cx} (ok:X.Ok) (E:Value→Shared→Prop):(X.wish E).Ok:=
 ⟨ok.mod,ok.kind,ok.glob,ok.blt,ok.above,ok.inj,ok.has,ok.cab,ok.hd,ok.frames,ok.stk,ok.exf,ok.bs,ok.bsz,ok.noex,ok.exfs,ok.funs,ok.frf⟩
theorem Cx.Ok.unwish {X:Cx} {E:Value→Shared→Prop} (ok:(X.wish E).Ok):X.Ok:=
 ⟨ok.mod,ok.kind,ok.glob,ok.blt,ok.above,ok.inj,ok.has,ok.cab,ok.hd,ok.frames,ok.stk,ok.exf,ok.bs,ok.bsz,ok.noex,ok.exfs,ok.funs,ok.frf⟩
section
variable {X:Cx} {pins:List (Addr × Obj)} {σ:St} {H:Hp} {s:Shared} {E:Value→Shared→Prop}
theorem Inv.wish (I:Inv X pins σ H s) (E:Value→Shared→Prop):Inv (X.wish E) pins σ H s:=⟨I.ok.wish E,I.os,I.bare,I.base,I.loc,I.cell,I.free,I.freeC,I.pin,I.hok,I.len⟩
theorem Inv.unwish (I:Inv (X.wish E) pins σ H s):Inv X pins σ H s:=⟨I.ok.unwish,I.os,I.bare,I.base,I.loc,I.cell,I.free,I.freeC,I.pin,I.hok,I.len⟩
theorem SP.unwish {D:Ends} {f:Flow} {s':Shared} (h:SP (X.wish E) pins D f s'):SP X pins D f s':=by
 cases f with
 | next=>obtain ⟨σ',H',I,q⟩:=h;exact ⟨σ',H',I.unwish,q⟩
 | brk=>obtain ⟨σ',H',I,q⟩:=h;exact ⟨σ',H',I.unwish,q⟩
 | cont=>obtain ⟨σ',H',I,q⟩:=h;exact ⟨σ',H',I.unwish,q⟩
 | ret u=>obtain ⟨v,σ',H',I,r,q⟩:=h;exact ⟨v,σ',H',I.unwish,r,q⟩
theorem PSs.nox {st:List Stmt} {t:TS} (h:PSs X.nox st t):PSs X st t:=fun pins s σ H D I hw=>
 wpAny_mono (h pins s σ H D (I.wish _) hw) (fun _ _ q=>q.unwish) fun _ _ z=>False.elim z
end
section
variable {X:Cx} {st:Stmt} {rest:List Stmt} {t u:TS} {e:Expr} {te:TE} {pos:Pos}
def tNext:TS:=fun D σ H=>D.nx σ H
def tSeq (t u:TS):TS:=fun D σ H=>t { D with nx:=u D } σ H
theorem q0f:PSs X [] tNext:=fun _ _ σ H _ I h=>wpAny_execs_nil ⟨σ,H,I,h⟩
theorem q02 (h1:PS X st t) (h2:PSs X rest u):PSs X (st::rest) (tSeq t u):=by
 intro pins s σ H D I h
 refine wpAny_execs_cons (thn (h1 pins s σ H { D with nx:=u D } I h) fun f s1 q=>?_)
 cases f with
 | next=>
  obtain ⟨σ',H',I',q⟩:=q
  exact h2 pins s1 σ' H' D I' q
 | ret v=>exact q
 | brk=>exact q
 | cont=>exact q
theorem q06 (h1:PS X st t):PSs X [st] t:=by
 intro pins s σ H D I h
 refine wpAny_execs_cons (thn (h1 pins s σ H D I h) fun f s1 q=>?_)
 cases f with
 | next=>exact wpAny_execs_nil q
 | ret v=>exact q
 | brk=>exact q
 | cont=>exact q
theorem Inv.quiet {pins:List (Addr × Obj)} {σ:St} {H:Hp} {s:Shared} (I:Inv X pins σ H s):interactive X.env=false:=by simp [interactive,I.ok.kind]
def tDrop (te:TE):TS:=fun D σ H=>te σ H fun _ H1=>D.nx σ H1
theorem q0q (he:PE X e te) (hs:swapsWith e none pos.line X.env=pure false:=by rfl):PS X (.Expr e pos) (tDrop te):=by
 intro pins s σ H D I h
 exact wpAny_Expr_any (thn (he pins s σ H _ I h) fun v s1 zz10=>q0t zz10 fun x H1 I1 r1 q1=>⟨σ,H1,I1,q1⟩) I.quiet hs
def tRet (te:TE):TS:=fun D σ H=>te σ H D.rt
theorem q0i (he:PE X e te):PS X (.Return (some e) pos) (tRet te):=by
 intro pins s σ H D I h
 exact wpAny_Return_some (thn (he pins s σ H _ I h) fun v s1 zz11=>q0t zz11 fun x H1 I1 r1 q1=>⟨x,σ,H1,I1,r1,q1⟩)
def tIfS (c:TT) (t u:TS):TS:=fun D σ H=>c σ H fun b H1=>if b=true then t D σ H1 else u D σ H1
theorem q11 {c:Expr} {a b:List Stmt} {tc:TT} (hc:PT X c tc) (ha:PSs X a t) (hb:PSs X b u):PS X (.If c a b pos) (tIfS tc t u):=by
 intro pins s σ H D I h
 refine wpAny_If (thn (hc pins s σ H _ I h) fun d s1 ⟨H1,I1,q1⟩=>?_)
 cases d with
 | true=>exact ha pins s1 σ H1 D I1 q1
 | false=>exact hb pins s1 σ H1 D I1 q1
def tNever:TS:=fun _ _ _=>False
theorem q78:PS X st tNever:=fun _ _ _ _ _ _ h=>h.elim
end
abbrev TG:=V→St→Hp→(St→Hp→Prop)→Prop
abbrev TGs:=List V→St→Hp→(St→Hp→Prop)→Prop
def PG (X:Cx) (target:Expr) (t:TG):Prop:=
 ∀ (pins:List (Addr × Obj)) (s:Shared) (σ:St) (H:Hp) (v:V) (u:Value) (Q:St→Hp→Prop),Inv X pins σ H s→RelV v u→t v σ H Q→
  wpAny (model X.prog X.w) X.A (assign target X.env u) (fun _ s'=>∃ σ' H',Inv X pins σ' H' s'∧Q σ' H') X.xe s
def PGs (X:Cx) (ts:List Expr) (t:TGs):Prop:=
 ∀ (pins:List (Addr × Obj)) (s:Shared) (σ:St) (H:Hp) (vs:List V) (us:List Value) (Q:St→Hp→Prop),Inv X pins σ H s→Vals vs us→t vs σ H Q→
  wpAny (model X.prog X.w) X.A (assignInOrder ((assignEach ts X.env).map (·.2)) us) (fun _ s'=>∃ σ' H',Inv X pins σ' H' s'∧Q σ' H') X.xe s
abbrev TSet:=V→V→V→Hp→(Hp→Prop)→Prop
def PSet (X:Cx) (t:TSet):Prop:=
 ∀ (pins:List (Addr × Obj)) (s:Shared) (σ:St) (H:Hp) (o i v:V) (ov iv u:Value) (Q:Hp→Prop),Inv X pins σ H s→RelV o ov→RelV i iv→RelV v u→t o i v H Q→
  wpAny (model X.prog X.w) X.A (setItem ov iv u) (fun _ s'=>∃ H',Inv X pins σ H' s'∧Q H') X.xe s
abbrev TIp:=V→V→Hp→VK→Prop
def PIp (X:Cx) (op:Operator) (t:TIp):Prop:=
 ∀ (pins:List (Addr × Obj)) (s:Shared) (σ:St) (H:Hp) (x y:V) (v u:Value) (Q:VK),Inv X pins σ H s→RelV x v→RelV y u→t x y H Q→
  wpAny (model X.prog X.w) X.A (inplaceOp op v u) (EP X pins σ Q) X.xe s
section
variable {X:Cx} {pos:Pos}
def q7u (i:Nat):TG:=fun v σ H Q=>Q (σ.set i (some v)) H
theorem q0k {i:Nat} {x:Str} (hN:X.N.Nodup) (hi:X.N[i]?=some x) (hx:Loc X.env.scope x) (hf:X.fn x=true∨X.env.scope.names.lookup x=some .local:=by first | exact .inl rfl | exact .inr rfl | assumption):PG X (.Name x pos) (q7u i):=by
 intro pins s σ H v u Q I r h
 exact wpAny_assign_Name (q58 I hN hi hx r (fun s' I'=>⟨_,H,I',h⟩) hf)
def gNil:TGs:=fun vs σ H Q=>vs=[]∧Q σ H
def gCons (t:TG) (u:TGs):TGs:=fun vs σ H Q=>∃ v r,vs=v::r∧t v σ H fun σ' H'=>u r σ' H' Q
theorem q5l:PGs X [] gNil:=by
 intro pins s σ H vs us Q I r h
 obtain ⟨e,h⟩:=h
 subst e
 cases r
 exact assignInOrder_nil ⟨σ,H,I,h⟩
theorem q1w {e:Expr} {es:List Expr} {t:TG} {u:TGs} (h1:PG X e t) (h2:PGs X es u)
  (hs:(assignEach (e::es) X.env).map (·.2)=assign e X.env::(assignEach es X.env).map (·.2):=by rfl):PGs X (e::es) (gCons t u):=by
 intro pins s σ H vs us Q I r h
 obtain ⟨v,vr,e1,h⟩:=h
 subst e1
 cases r with
 | cons r rr=>
  rw [hs]
  refine assignInOrder_cons (thn (h1 pins s σ H _ _ _ I r h) fun _ s1 ⟨σ1,H1,I1,q1⟩=>?_)
  exact h2 pins s1 σ1 H1 _ _ Q I1 rr q1
def gTup (K:W.Frag) (n:Nat) (t:TGs):TG:=fun v σ H Q=>∃ a xs,v=.ref a∧SqT K H a xs∧xs.length=n∧t xs σ H Q
theorem q8c {es:List Expr} {k:Nat} {t:TGs} {n:Nat} (hc:X.calm=true) (h:PGs X es t)
  (hn:(assignEach es X.env).length=n:=by rfl) (hst:(assignEach es X.env).findIdx? (·.1)=none:=by rfl):PG X (.Tuple es k pos) (gTup X.K n t):=by
 intro pins s σ H v u Q I r hw
 obtain ⟨a,xs,e1,hq,hl,hw⟩:=hw
 subst e1
 cases r
 obtain ⟨its,rv,ht,hz⟩:=I.tuple hq
 refine assign_Tuple_tuple (I.ok.hd hc) ht (by simp [hn,← hl,rv.length]) hst fun h' hx=>?_
 have I1:Inv X pins σ H { s with heap:=h' }:=I.kept (t':=s.toks) fun b o e=>hx b o (Nat.ne_of_lt (Heap.lt_size e)) e
 exact h pins _ σ H xs _ Q I1 (by simpa using rv) hw
def gSub (to ti:TE) (t:TSet):TG:=fun v σ H Q=>to σ H fun o H1=>ti σ H1 fun i H2=>t o i v H2 fun H3=>Q σ H3
theorem q9d {o i:Expr} {to ti:TE} {t:TSet} (ho:PE X o to) (hi:PE X i ti) (hs:PSet X t)
  (ha:∀ v,assign (.Subscript o i pos) X.env v=(do
   let ov ← holding [v] (eval o X.env)
   let iv ← holding [v,ov] (eval i X.env)
   standAt pos
   holding [v,ov,iv] (setItem ov iv v)
   release [v,ov,iv] []):=by intro _;rfl):PG X (.Subscript o i pos) (gSub to ti t):=by
 intro pins s σ H v u Q I r h
 rw [ha]
 refine wpAny_bind (wpAny_holding (thn (ho pins s σ H _ I h) fun ov s1 zz12=>q0t zz12 fun x H1 I1 r1 q1=>?_))
 refine wpAny_bind (wpAny_holding (thn (hi pins s1 σ H1 _ I1 q1) fun iv s2 zz13=>q0t zz13 fun y H2 I2 r2 q2=>?_))
 refine wpAny_bind (wpAny_standAt (wpAny_bind (wpAny_holding (thn (hs pins s2 σ H2 x y v ov iv u _ I2 r1 r2 r q2) fun _ s3 ⟨H3,I3,q3⟩=>?_))))
 exact wpAny_release ⟨σ,H3,I3,q3⟩
def tAsg (te:TE) (g:TG):TS:=fun D σ H=>te σ H fun x H1=>g x σ H1 D.nx
theorem q6w {tg e:Expr} {te:TE} {g:TG} (he:PE X e te) (hg:PG X tg g) (hs:swapsWithSole [tg] e pos.line X.env=pure false:=by rfl) (hw:swappedStores [tg] e X.env=pure none:=by rfl)
  (h1:(assignEach [tg] X.env).map (·.2)=[assign tg X.env]:=by rfl):PS X (.Assign [tg] e pos) (tAsg te g):=by
 intro pins s σ H D I h
 refine wpAny_Assign_stores (thn (he pins s σ H _ I h) fun v s1 zz14=>q0t zz14 fun x H1 I1 r1 q1=>?_) hs hw
 rw [h1]
 exact thn (hg pins s1 σ H1 x v _ I1 r1 q1) fun _ s2 q=>q
theorem q0a {i:Nat} {x:Str} {e:Expr} {te:TE} {pos':Pos} (hN:X.N.Nodup) (hi:X.N[i]?=some x) (hx:Loc X.env.scope x) (he:PE X e te) (hs:swapsWith e (some (.Name x pos')) pos.line X.env=pure false:=by rfl) (hf:X.fn x=true∨X.env.scope.names.lookup x=some .local:=by first | exact .inl rfl | exact .inr rfl | assumption) :
  PS X (.Assign [.Name x pos'] e pos) (tAsg te (q7u i)):=by
 intro pins s σ H D I h
 refine wpAny_Assign_Name (thn (he pins s σ H _ I h) fun v s1 zz15=>q0t zz15 fun y H1 I1 r1 q1=>?_) hs
 exact q58 I1 hN hi hx r1 (fun s2 I2=>⟨_,H1,I2,q1⟩) hf
def tAug (i:Nat) (te:TE) (ti:TIp):TS:=fun D σ H=>∃ x,σ[i]?=some (some x)∧te σ H fun y H1=>ti x y H1 fun z H2=>D.nx (σ.set i (some z)) H2
theorem ps_aug {i:Nat} {x:Str} {e:Expr} {te:TE} {op:Operator} {ti:TIp} {pos':Pos} (hN:X.N.Nodup) (hi:X.N[i]?=some x) (hx:Loc X.env.scope x) (he:PE X e te) (ho:PIp X op ti) (hf:X.fn x=true∨X.env.scope.names.lookup x=some .local:=by first | exact .inl rfl | exact .inr rfl | assumption) :
  PS X (.AugAssign (.Name x pos') op e pos) (tAug i te ti):=by
 intro pins s σ H D I h
 obtain ⟨v,e1,h⟩:=h
 obtain ⟨m,hn,hl⟩:=I.loc
 have vis:Vis X.env.scope x:=by rcases hx with k | k;exact .inl k;exact .inr (.inl k)
 obtain ⟨u,r,l⟩:=hl i x v hi e1 vis
 refine wpAny_AugAssign_Name ?_
 have go:wpAny (model X.prog X.w) X.A (eval e X.env) (fun w s₂=>wpAny (model X.prog X.w) X.A (inplaceOp op u w) (fun r s₃=>wpAny (model X.prog X.w) X.A (storeName X.env x r) (fun _=>SP X pins D .next) X.xe s₃) X.xe s₂) X.xe s:=by
  refine thn (he pins s σ H _ I h) fun w s1 zz17=>q0t zz17 fun y H1 I1 r1 q1=>?_
  refine thn (ho pins s1 σ H1 v y u w _ I1 r r1 q1) fun z s2 zz18=>q0t zz18 fun zv H2 I2 r2 q2=>?_
  exact q58 I2 hN hi hx r2 (fun s3 I3=>⟨_,H2,I3,q2⟩) hf
 rcases l with ⟨hk,hm⟩ | ⟨hk,c,hc,hcell⟩
 ·exact wpAny_loadName_local I.ok.kind hk hn hm go
 ·rcases hk with hk | hk
  ·exact wpAny_loadName_cell I.ok.kind hk hc hcell go
  ·rcases hx with k | k
   ·have:X.env.scope.names.lookup x=some .free:=hk
    rw [k] at this;cases this
   ·have:X.env.scope.names.lookup x=some .free:=hk
    rw [k] at this;cases this
def ipI (f:Int→Int→Int):TIp:=fun x y H Q=>∃ i j,x=.int i∧y=.int j∧Q (.int (f i j)) H
theorem ip_add:PIp X .Add (ipI fun i j=>i+j):=by
 intro pins s σ H x y v u Q I r1 r2 h
 obtain ⟨i,j,e1,e2,q⟩:=h
 subst e1;subst e2
 obtain ⟨t,rfl⟩:=r1
 obtain ⟨t',rfl⟩:=r2
 exact iadd_int ⟨.int _,H,I.tok _,⟨_,rfl⟩,q⟩
end
section
variable {X:Cx} {pos:Pos}
def tWhile (c:TT) (tb:TS):TS:=fun D σ H=>∃ W:Nat→St→Hp→Prop,(∃ m,W m σ H)∧∀ m σ H,W m σ H→
 c σ H fun b H1=>if b=true then ∃ N:St→Hp→Prop,(∀ σ' H',N σ' H'→∃ m',m' < m∧W m' σ' H')∧tb { D with nx:=N,ct:=N,bk:=D.nx } σ H1 else D.nx σ H1
theorem q57 {c:Expr} {body:List Stmt} {tc:TT} {tb:TS} (hp:PassesOwn (model X.prog X.w) X.A X.env X.xe) (hc:PT X c tc) (hb:PSs X body tb):PS X (.While c body [] pos) (tWhile tc tb):=by
 intro pins s σ H D I h
 obtain ⟨W,⟨m0,w0⟩,turn⟩:=h
 refine wpAny_While (codeAny_whileLoop (fun n s'=>∃ σ' H',Inv X pins σ' H' s'∧W n σ' H') ?_ m0 ⟨σ,H,I,w0⟩)
 rintro n s1 ⟨σ1,H1,I1,w1⟩
 refine wpAny_passesOwn hp (thn (hc pins s1 σ1 H1 _ I1 (turn n σ1 H1 w1)) fun b s2 ⟨H2,I2,q2⟩=>?_)
 cases b with
 | true=>
  obtain ⟨N,hN,q2⟩:=q2
  rw [if_pos rfl]
  refine wpAny_passesOwn hp (thn (hb pins s2 σ1 H2 _ I2 q2) fun f s3 q3=>?_)
  cases f with
  | next=>
   obtain ⟨σ3,H3,I3,n3⟩:=q3
   obtain ⟨m',hm,w3⟩:=hN σ3 H3 n3
   exact ⟨m',hm,σ3,H3,I3,w3⟩
  | cont=>
   obtain ⟨σ3,H3,I3,n3⟩:=q3
   obtain ⟨m',hm,w3⟩:=hN σ3 H3 n3
   exact ⟨m',hm,σ3,H3,I3,w3⟩
  | brk=>exact q3
  | ret v=>exact q3
 | false=>
  rw [if_neg Bool.false_ne_true]
  exact wpAny_execs_nil ⟨σ1,H2,I2,q2⟩
end
structure It where
 go:Nat→Hp→Prop
 yld:Nat→Hp→V→Hp→Prop
 stop:Nat→Hp→Prop
def FpOk (X:Cx) (pins:List (Addr × Obj)) (H:Hp) (b:Addr):Prop:=
 H b=none∧b≠X.env.locals∧b ∉ X.fs∧(b∈X.ex∨X.s₀.heap.objs.size≤b)∧(∀ x c,X.env.cells.lookup x=some c→c≠b)∧∀ p∈X.pn++pins,p.1≠b
theorem Inv.fpOk {X:Cx} {pins:List (Addr × Obj)} {σ:St} {H H':Hp} {s:Shared} {b:Addr} (I:Inv X pins σ H s) (hb:s.heap.objs.size≤b) (hn:H' b=none):FpOk X pins H' b:=by
 refine ⟨hn,Nat.ne_of_gt (Nat.lt_of_lt_of_le I.lt hb),I.nofs hb,.inr (Nat.le_trans I.sz hb),fun x c e z=>?_,fun p hp z=>?_⟩
 ·obtain ⟨v,q⟩:=I.cell x c e
  exact absurd (Nat.lt_of_lt_of_le q.lt (by rw [z];exact hb)) (Nat.lt_irrefl _)
 ·exact absurd (Nat.lt_of_lt_of_le (Heap.lt_size (I.pin p hp).1) (by rw [z];exact hb)) (Nat.lt_irrefl _)
structure Turn (P:Program) (w:World) (K:W.Frag) (tg:Expr) (J:It) (fp:List Addr) (it:Addr) (tn:Nat→Heap→Prop):Prop where
 mem:it∈fp
 obj:∀ i h,tn i h→∀ b∈fp,∃ o,h.get? b=some o∧∀ v,o.data≠.cell v
 keep:∀ i h h',tn i h→(∀ b∈fp,∀ o,h.get? b=some o→h'.get? b=some o)→tn i h'
 item:∀ (X:Cx),X.prog=P→X.w=w→X.K=K→X.calm=true→∀ (i:Nat) (pins:List (Addr × Obj)) (s:Shared) (σ:St) (H:Hp) (E:Value→Shared→Prop),Inv X pins σ H s→(∀ b∈fp,FpOk X pins H b)→tn i s.heap→J.go i H→
  wpAny (model P w) X.A (pyNext (.ref it)) (fun r s1=>∃ u,r=some u∧
   wpAny (model P w) X.A (letOwnedTupleGo tg (.ref it) u) (fun _ s2=>∃ x H',Inv X pins σ H' s2∧RelV x u∧J.yld i H x H'∧tn (i+1) s2.heap∧∀ b∈fp,H' b=none) E s1) E s
 done:∀ (X:Cx),X.prog=P→X.w=w→X.K=K→X.calm=true→∀ (i:Nat) (pins:List (Addr × Obj)) (s:Shared) (σ:St) (H:Hp) (E:Value→Shared→Prop),Inv X pins σ H s→(∀ b∈fp,FpOk X pins H b)→tn i s.heap→J.stop i H→
  wpAny (model P w) X.A (pyNext (.ref it)) (fun r s1=>r=none∧Inv X pins σ H s1) E s
 self:∀ (A:Around) (i:Nat) (s:Shared) (Q:Value→Shared→Prop) (E:Value→Shared→Prop),tn i s.heap→Q (.ref it) s→wpAny (model P w) A (pyIter (.ref it)) Q E s
abbrev TI:=St→Hp→(It→Hp→Prop)→Prop
def PIE (X:Cx) (pins:List (Addr × Obj)) (σ:St) (tg:Expr) (R:It→Hp→Prop) (itv:Value) (s2:Shared):Prop:=
 ∃ (it:Addr) (fp:List Addr) (tn:Nat→Heap→Prop) (J:It) (H':Hp),itv=.ref it∧Inv X pins σ H' s2∧Turn X.prog X.w X.K tg J fp it tn∧tn 0 s2.heap∧(∀ b∈fp,FpOk X pins H' b)∧R J H'
def PI (X:Cx) (tg iter:Expr) (wi:TI):Prop:=
 ∀ (pins:List (Addr × Obj)) (s:Shared) (σ:St) (H:Hp) (R:It→Hp→Prop),Inv X pins σ H s→wi σ H R→
  wpAny (model X.prog X.w) X.A (eval iter X.env) (fun v s1=>wpAny (model X.prog X.w) X.A (pyIter v) (PIE X pins σ tg R) X.xe s1) X.xe s
theorem go_of {M:Model} {A:Around} {E:Value→Shared→Prop} {s:Shared} {tg:Expr} {it:Addr} {u:Value} {o:Obj} {n:String} {vs:Array Value} {Q:Unit→Shared→Prop} (ho:s.heap.get? it=some o) (hc:o.cls=.type n) (hd:o.data=.fields vs)
  (hn:["enumerate", "zip", "dict_itemiterator", "dict_reverseitemiterator", "odict_iterator", "itertools.zip_longest", "itertools.pairwise"].contains n=false) (hQ:Q () s):wpAny M A (letOwnedTupleGo tg (.ref it) u) Q E s:=by
 unfold letOwnedTupleGo
 cases tg <;> first
  | exact wpAny_pure hQ
  | (cases u <;> first
    | exact wpAny_pure hQ
    | (refine wpAny_bind (wpAny_load ho ?_)
       rw [hc,hd]
       show wpAny M A (if (["enumerate", "zip", "dict_itemiterator", "dict_reverseitemiterator", "odict_iterator", "itertools.zip_longest", "itertools.pairwise"].contains n && vs[0]? == some (rawInt _))=true then _ else _) Q E s
       rw [if_neg (by intro h;rw [hn,Bool.false_and] at h;cases h)]
       exact wpAny_pure hQ))
def Itl (K:W.Frag) (a:Addr):It:=
 ⟨fun i H=>∃ xs x,SqL K H a xs∧xs[i]?=some x,fun i H x H'=>H'=H∧∀ xs,SqL K H a xs→xs[i]?=some x,fun i H=>∃ xs,SqL K H a xs∧xs.length≤i⟩
def Itr (lo:Int) (n:Nat):It:=⟨fun i _=>i < n,fun i H x H'=>H'=H∧x=.int (lo+i),fun i _=>n≤i⟩
theorem turn_list {P:Program} {w:World} {K:W.Frag} {tg:Expr} (a it:Addr):Turn P w K tg (Itl K a) [it] it (fun i h=>h.IsListIter it a i) where
 mem:=by simp
 obj:=fun i h st b hb=>by
  have e:b=it:=by simpa using hb
  subst e
  obtain ⟨o,e,c,d⟩:=st
  exact ⟨o,e,fun v z=>by rw [d] at z;cases z⟩
 keep:=fun i h h' st k=>st.at fun o e=>k it (by simp) o e
 item:=by
  intro X hP hw hK hc i pins s σ H E I hf st hg
  subst hP hw hK
  obtain ⟨xs,x,hq,hx⟩:=hg
  obtain ⟨its,rv,p,hz⟩:=I.list hq
  obtain ⟨u,hu,ru⟩:=rv.get hx
  obtain ⟨f0,f1,f2,f3,f4,f5⟩:=hf it (by simp)
  refine wpAny_pyNext_list_item st p.isList (x:=u) (by simpa using hu) fun h' st' sb=>?_
  have I1:Inv X pins σ H { s with heap:=h' }:=I.turned (t':=s.toks) (fun b o hb e=>(sb.2 b hb).trans e) f0 f1 f3 f4 f5
  obtain ⟨o,e,c,d⟩:=id st'
  exact ⟨u,rfl,go_of (s:={ s with heap:=h' }) e c d (by decide) ⟨x,H,I1,ru,⟨rfl,fun ys hy=>by rw [I.list_inj hy hq];exact hx⟩,st',fun b hb=>(hf b hb).1⟩⟩
 done:=by
  intro X hP hw hK hc i pins s σ H E I hf st hg
  subst hP hw hK
  obtain ⟨xs,hq,hx⟩:=hg
  obtain ⟨its,rv,p,hz⟩:=I.list hq
  obtain ⟨f0,f1,f2,f3,f4,f5⟩:=hf it (by simp)
  have hl:=rv.length
  exact wpAny_pyNext_list_end (I.ok.hd hc) st p.isList (by simp;omega) fun h' eb=>⟨rfl,I.turned (t':=s.toks) (fun b o hb e=>eb b o hb e) f0 f1 f3 f4 f5⟩
 self:=fun _ _ _ _ _ st h=>wpAny_pyIter_listiter st h
theorem turn_range {P:Program} {w:World} {K:W.Frag} {tg:Expr} (it:Addr) (lo:Int) (n:Nat):Turn P w K tg (Itr lo n) [it] it (fun i h=>IsRangeIter h it (lo+(i:Nat)*1) ((n:Int) - (i:Nat)) 1) where
 mem:=by simp
 obj:=fun i h st b hb=>by
  have e:b=it:=by simpa using hb
  subst e
  exact ⟨_,st,fun v z=>by
   have z':Data.fields _=Data.cell v:=z
   cases z'⟩
 keep:=fun i h h' st k=>k it (by simp) _ st
 item:=by
  intro X hP hw hK hc i pins s σ H E I hf st hg
  subst hP hw hK
  obtain ⟨f0,f1,f2,f3,f4,f5⟩:=hf it (by simp)
  have W:=Walks.range (prog:=X.prog) (w:=X.w) (I.ok.hd hc) it lo 1 n
  refine W.item i s _ _ hg st fun v h' tk hv st' kk=>?_
  obtain ⟨t,rfl⟩:=hv
  have I1:Inv X pins σ H { s with heap:=h',toks:=tk }:=I.turned (fun b o hb e=>kk b o (by simpa using hb) e) f0 f1 f3 f4 f5
  refine ⟨_,rfl,go_of (s:={ s with heap:=h',toks:=tk }) (n := "range_iterator") st' rfl rfl (by decide) ⟨.int (lo+i),H,I1,⟨t,?_⟩,⟨rfl,rfl⟩,st',fun b hb=>(hf b hb).1⟩⟩
  rw [Int.mul_one]
 done:=by
  intro X hP hw hK hc i pins s σ H E I hf st hg
  subst hP hw hK
  obtain ⟨f0,f1,f2,f3,f4,f5⟩:=hf it (by simp)
  exact wpAny_pyNext_range_end (I.ok.hd hc) st (by have:n≤i:=hg;omega) fun h' eb=>⟨rfl,I.turned (t':=s.toks) (fun b o hb e=>eb b o hb e) f0 f1 f3 f4 f5⟩
 self:=fun _ _ _ _ _ st h=>wpAny_pyIter_rangeiter st h
end L2
namespace L2
open PySem PySem.Spec PyProof.Rows
section
variable {X:Cx} {tg:Expr}
def iList (K:W.Frag) (tl:TE):TI:=fun σ H R=>tl σ H fun x H1=>∃ a,x=.ref a∧(∃ xs,SqL K H1 a xs)∧R (Itl K a) H1
theorem q19 {l:Expr} {tl:TE} (hl:PE X l tl):PI X tg l (iList X.K tl):=by
 intro pins s σ H R I h
 refine thn (hl pins s σ H _ I h) fun v s1 zz24=>q0t zz24 fun x H1 I1 r1 q1=>?_
 obtain ⟨a,e,⟨xs,hq⟩,q⟩:=q1
 subst e
 cases r1
 obtain ⟨its,rv,p,hz⟩:=I1.list hq
 refine wpAny_pyIter_list p.isList ?_
 refine ⟨s1.heap.objs.size,[s1.heap.objs.size],_,_,H1,rfl,I1.kept (t':=s1.toks) fun b o e=>Heap.get?_push_of_some _ e,turn_list a _,⟨_,Heap.get?_push_size _ rfl,rfl,rfl⟩,fun b hb=>?_,q⟩
 have e:b=s1.heap.objs.size:=by simpa using hb
 subst e
 exact I1.fpOk (Nat.le_refl _) (I1.hok.fresh (Nat.le_refl _))
theorem range_it {pins:List (Addr × Obj)} {σ:St} {H:Hp} {s:Shared} {R:It→Hp→Prop} {E:Value→Shared→Prop} {lo hi:Int} {t u v:Tok} {tk:Nat} (I:Inv X pins σ H s) (h1:-(2 ^ 62)≤lo) (h2:lo < 2 ^ 62) (h3:-(2 ^ 62)≤hi) (h4:hi < 2 ^ 62)
  (q:R (Itr lo (hi - lo).toNat) H):wpAny (model X.prog X.w) X.A (pyIter (.ref s.heap.objs.size)) (PIE X pins σ tg R) E { s with heap:=s.heap.push { cls:=.type "range",data:=.fields #[.int lo t,.int hi u,.int 1 v] },toks:=tk }:=by
 refine wpAny_pyIter_range (IsRange.new ..) (small_one h1 h2 h3 h4) ?_
 have I1:Inv X pins σ H { s with heap:=s.heap.push { cls:=.type "range",data:=.fields #[.int lo t,.int hi u,.int 1 v] },toks:=tk }:=I.kept fun b o e=>Heap.get?_push_of_some _ e
 refine ⟨(s.heap.push { cls:=.type "range",data:=.fields #[.int lo t,.int hi u,.int 1 v] }).objs.size,[(s.heap.push { cls:=.type "range",data:=.fields #[.int lo t,.int hi u,.int 1 v] }).objs.size],_,_,H,rfl,
  I1.kept (t':=tk) fun b o e=>Heap.get?_push_of_some _ e,turn_range _ lo (hi - lo).toNat,?_,fun b hb=>?_,q⟩
 ·have e1:lo+((0:Nat):Int)*1=lo:=by simp
  have e2:(((hi - lo).toNat:Nat):Int) - ((0:Nat):Int)=Builtin.Range.rangeSize lo hi 1:=by rw [rangeSize_one];split <;> omega
  show IsRangeIter _ _ (lo+((0:Nat):Int)*1) ((((hi - lo).toNat:Nat):Int) - ((0:Nat):Int)) 1
  rw [e1,e2]
  exact Heap.get?_push_size _ rfl
 ·have e:b=(s.heap.push { cls:=.type "range",data:=.fields #[.int lo t,.int hi u,.int 1 v] }).objs.size:=by simpa using hb
  subst e
  exact I1.fpOk (Nat.le_refl _) (I1.hok.fresh (Nat.le_refl _))
def iRng1 (ta:TA):TI:=fun σ H R=>ta σ H fun vs H1=>∃ j:Int,vs=[.int j]∧-(2 ^ 62)≤j∧j < 2 ^ 62∧R (Itr 0 j.toNat) H1
theorem q1i {a:Expr} {ta:TA} {p pos:Pos} (hg:Gl X "range") (hm:X.mg "range" = none) (ha:PA X [a] ta) (hs:starEach [a] X.env=[(false,eval a X.env)]:=by rfl):PI X tg (.Call (.Name "range" p) [a] [] pos) (iRng1 ta):=by
 intro pins s σ H R I h
 refine Call_ (q2s I hg hm boot_range (PyProof.Rows.callWith_type1 (thn (ha pos pins s σ H _ I h) fun us s1 zz26=>q3t zz26 fun vs H1 I1 r1 q1=>?_) hs rfl))
 obtain ⟨j,e,q1,q2,q⟩:=q1
 subst e
 cases r1 with
 | cons r rr=>
  cases rr
  obtain ⟨t,rfl⟩:=r
  exact call_range_1 (range_it I1 (by omega) (by omega) q1 q2 (by simpa using q))
def tFor (wi:TI) (g:TG) (tb:TS):TS:=fun D σ H=>wi σ H fun J H1=>∃ W:Nat→Nat→St→Hp→Prop,(∃ m,W 0 m σ H1)∧∀ i m σ H,W i m σ H→
 (J.stop i H∧D.nx σ H)∨(J.go i H∧∃ N:St→Hp→Prop,(∀ σ' H',N σ' H'→∃ m',m' < m∧W (i+1) m' σ' H')∧∀ x H',J.yld i H x H'→g x σ H' fun σ2 H2=>tb { D with nx:=N,ct:=N,bk:=D.nx } σ2 H2)
def q6t (fp:List Addr) (h:Heap):List (Addr × Obj):=fp.filterMap fun b=>(h.get? b).map fun o=>(b,o)
theorem q29 {fp:List Addr} {h:Heap} {b:Addr} {o:Obj} (hb:b∈fp) (e:h.get? b=some o):(b,o)∈q6t fp h:=List.mem_filterMap.mpr ⟨b,hb,by rw [e];rfl⟩
theorem of_pinsAt {fp:List Addr} {h:Heap} {p:Addr × Obj} (hp:p∈q6t fp h):p.1∈fp∧h.get? p.1=some p.2:=by
 obtain ⟨b,hb,e⟩:=List.mem_filterMap.mp hp
 cases q:h.get? b with
 | none=>rw [q] at e;cases e
 | some o=>
  rw [q] at e
  have e':(b,o)=p:=Option.some.inj e
  subst e'
  exact ⟨hb,q⟩
theorem Inv.pinned {pins:List (Addr × Obj)} {σ:St} {H:Hp} {s:Shared} {fp:List Addr} (I:Inv X pins σ H s) (hf:∀ b∈fp,FpOk X pins H b) (ho:∀ b∈fp,∃ o,s.heap.get? b=some o∧∀ v,o.data≠.cell v):Inv X (pins++q6t fp s.heap) σ H s:=
 I.pins_of fun p hp=>(List.mem_append.mp hp).elim (fun z=>I.pin p (List.mem_append_right _ z)) fun z=>by
  obtain ⟨hb,e⟩:=of_pinsAt z
  obtain ⟨f0,f1,f2,_⟩:=hf p.1 hb
  obtain ⟨o,e',d⟩:=ho p.1 hb
  rw [e] at e';cases e'
  exact ⟨e,f0,f1,f2,d⟩
theorem Inv.unpinned {pins pl:List (Addr × Obj)} {σ:St} {H:Hp} {s:Shared} (I:Inv X (pins++pl) σ H s):Inv X pins σ H s:=I.pins_of fun p hp=>I.pin p (List.mem_append_right _ (List.mem_append_left _ hp))
theorem q21 {iter:Expr} {body:List Stmt} {wi:TI} {g:TG} {tb:TS} {pos:Pos} (hp:PassesOwn (model X.prog X.w) X.A X.env X.xe) (hc:X.calm=true) (hi:PI X tg iter wi) (hg:PG X tg g) (hb:PSs X body tb)
  (hs:∀ x,foldedSetIterable iter X.env x=pure x:=by intro _;rfl):PS X (.For tg iter body [] pos) (tFor wi g tb):=by
 intro pins s σ H D I h
 refine wpAny_For (thn (hi pins s σ H _ I h) fun v s1 h1=>thn h1 fun itv s2 h2=>?_) hs
 obtain ⟨it,fp,tn,J,H2,e,I2,T,st2,f2,W,⟨m0,w0⟩,turn⟩:=h2
 subst e
 have stat:∀ {H':Hp},(∀ b∈fp,H' b=none)→∀ b∈fp,FpOk X pins H' b:=fun hn b hb=>⟨hn b hb,(f2 b hb).2⟩
 refine codeAny_forLoop_any (fun n s'=>∃ i σ' H',Inv X pins σ' H' s'∧tn i s'.heap∧(∀ b∈fp,H' b=none)∧W i n σ' H') ?_ m0 ⟨0,σ,H2,I2,st2,fun b hb=>(f2 b hb).1,w0⟩
 rintro n s3 ⟨i,σ3,H3,I3,st3,fr3,w3⟩
 rcases turn i n σ3 H3 w3 with ⟨stop,qn⟩ | ⟨go,N,hN,step⟩
 ·refine wpAny_passesOwn hp (thn (T.done X rfl rfl rfl hc i pins s3 σ3 H3 X.xe I3 (stat fr3) st3 stop) fun r s4 ⟨hr,I4⟩=>?_)
  subst hr
  exact wpAny_execs_nil ⟨σ3,H3,I4,qn⟩
 ·refine wpAny_passesOwn hp (thn (T.item X rfl rfl rfl hc i pins s3 σ3 H3 X.xe I3 (stat fr3) st3 go) fun r s4 ⟨u,hr,h4⟩=>?_)
  subst hr
  refine wpAny_passesOwn hp (thn h4 fun _ s5 ⟨x,H5,I5,r5,y5,st5,fr5⟩=>?_)
  have I5':=I5.pinned (stat fr5) (T.obj _ _ st5)
  refine wpAny_passesOwn hp (thn (hg _ s5 σ3 H5 x u _ I5' r5 (step x H5 y5)) fun _ s6 ⟨σ6,H6,I6,q6⟩=>?_)
  refine wpAny_passesOwn hp (thn (hb _ s6 σ6 H6 _ I6 q6) fun f s7 q7=>?_)
  have again:∀ {σ7:St} {H7:Hp},Inv X (pins++q6t fp s5.heap) σ7 H7 s7→N σ7 H7→∃ m,m < n∧∃ i σ' H',Inv X pins σ' H' s7∧tn i s7.heap∧(∀ b∈fp,H' b=none)∧W i m σ' H':=fun {σ7 H7} I7 n7=>by
   obtain ⟨m',hm,w7⟩:=hN σ7 H7 n7
   refine ⟨m',hm,i+1,σ7,H7,I7.unpinned,T.keep _ _ _ st5 fun b hb o e=>(I7.pin (b,o) (List.mem_append_right _ (List.mem_append_right _ (q29 hb e)))).1,fun b hb=>?_,w7⟩
   obtain ⟨o,e,d⟩:=T.obj _ _ st5 b hb
   exact (I7.pin (b,o) (List.mem_append_right _ (List.mem_append_right _ (q29 hb e)))).2.1
  cases f with
  | next=>obtain ⟨σ7,H7,I7,n7⟩:=q7;exact again I7 n7
  | cont=>obtain ⟨σ7,H7,I7,n7⟩:=q7;exact again I7 n7
  | brk=>obtain ⟨σ7,H7,I7,q7⟩:=q7;exact ⟨σ7,H7,I7.unpinned,q7⟩
  | ret v=>obtain ⟨x7,σ7,H7,I7,r7,q7⟩:=q7;exact ⟨x7,σ7,H7,I7.unpinned,r7,q7⟩
end
theorem q1x {K:W.Frag} {a:Addr} {xs:List V} {g:TG} {tb:TS} {D:Ends} {σ:St} {H:Hp} (Pv:Nat→St→Hp→Prop) (h0:Pv 0 σ H) (hl:∀ i σ H,i≤xs.length→Pv i σ H→SqL K H a xs)
  (hs:∀ i x σ H,xs[i]?=some x→Pv i σ H→g x σ H fun σ2 H2=>tb { D with nx:=Pv (i+1),ct:=Pv (i+1),bk:=D.nx } σ2 H2) (hd:∀ σ H,Pv xs.length σ H→D.nx σ H) :
  ∃ W:Nat→Nat→St→Hp→Prop,(∃ m,W 0 m σ H)∧∀ i m σ H,W i m σ H→
   ((Itl K a).stop i H∧D.nx σ H)∨((Itl K a).go i H∧∃ N:St→Hp→Prop,(∀ σ' H',N σ' H'→∃ m',m' < m∧W (i+1) m' σ' H')∧∀ x H',(Itl K a).yld i H x H'→g x σ H' fun σ2 H2=>tb { D with nx:=N,ct:=N,bk:=D.nx } σ2 H2):=by
 refine ⟨fun i m σ H=>m=xs.length - i∧i≤xs.length∧Pv i σ H,⟨xs.length,by simp,Nat.zero_le _,h0⟩,?_⟩
 rintro i m σ H ⟨rfl,hi,p⟩
 have q:=hl i σ H hi p
 by_cases hlt:i < xs.length
 ·refine .inr ⟨⟨xs,xs[i],q,by simp [hlt]⟩,Pv (i+1),fun σ' H' p'=>⟨xs.length - (i+1),by omega,rfl,hlt,p'⟩,fun x H' y=>?_⟩
  obtain ⟨e,y⟩:=y
  subst e
  exact hs i x σ _ (y xs q) p
 ·have e:i=xs.length:=by omega
  subst e
  exact .inl ⟨⟨xs,q,Nat.le_refl _⟩,hd σ H p⟩
theorem q2n {lo:Int} {n:Nat} {g:TG} {tb:TS} {D:Ends} {σ:St} {H:Hp} (Pv:Nat→St→Hp→Prop) (h0:Pv 0 σ H)
  (hs:∀ i σ H,i < n→Pv i σ H→g (.int (lo+i)) σ H fun σ2 H2=>tb { D with nx:=Pv (i+1),ct:=Pv (i+1),bk:=D.nx } σ2 H2) (hd:∀ σ H,Pv n σ H→D.nx σ H) :
  ∃ W:Nat→Nat→St→Hp→Prop,(∃ m,W 0 m σ H)∧∀ i m σ H,W i m σ H→
   ((Itr lo n).stop i H∧D.nx σ H)∨((Itr lo n).go i H∧∃ N:St→Hp→Prop,(∀ σ' H',N σ' H'→∃ m',m' < m∧W (i+1) m' σ' H')∧∀ x H',(Itr lo n).yld i H x H'→g x σ H' fun σ2 H2=>tb { D with nx:=N,ct:=N,bk:=D.nx } σ2 H2):=by
 refine ⟨fun i m σ H=>m=n - i∧i≤n∧Pv i σ H,⟨n,by simp,Nat.zero_le _,h0⟩,?_⟩
 rintro i m σ H ⟨rfl,hi,p⟩
 by_cases hlt:i < n
 ·refine .inr ⟨hlt,Pv (i+1),fun σ' H' p'=>⟨n - (i+1),by omega,rfl,hlt,p'⟩,fun x H' y=>?_⟩
  obtain ⟨e,y⟩:=y
  subst e y
  exact hs i σ _ hlt p
 ·have e:i=n:=by omega
  subst e
  exact .inl ⟨Nat.le_refl _,hd σ H p⟩
theorem q7n {c:TT} {tb:TS} {D:Ends} {σ:St} {H:Hp} (Pv:St→Hp→Prop) (μ:St→Hp→Nat) (h0:Pv σ H)
  (hs:∀ σ H,Pv σ H→c σ H fun b H1=>if b=true then tb { D with nx:=fun σ' H'=>Pv σ' H'∧μ σ' H' < μ σ H,ct:=fun σ' H'=>Pv σ' H'∧μ σ' H' < μ σ H,bk:=D.nx } σ H1 else D.nx σ H1)
  (mono:∀ σ H Q Q',(∀ b H1,Q b H1→Q' b H1)→c σ H Q→c σ H Q'):tWhile c tb D σ H:=by
 refine ⟨fun m σ H=>m=μ σ H∧Pv σ H,⟨_,rfl,h0⟩,?_⟩
 rintro m σ H ⟨rfl,p⟩
 refine mono σ H _ _ (fun b H1 q=>?_) (hs σ H p)
 cases b with
 | true=>exact ⟨_,fun σ' H' ⟨p',l⟩=>⟨_,l,rfl,p'⟩,q⟩
 | false=>exact q
end L2
namespace L2
open PySem PySem.Spec PyProof.Rows
abbrev R2:=V→V→Hp→VK→Prop
def OpR (X:Cx) (f:Value→Value→Sem Value) (r:R2):Prop:=
 ∀ (pins:List (Addr × Obj)) (s:Shared) (σ:St) (H:Hp) (x y:V) (v u:Value) (Q:VK),Inv X pins σ H s→RelV x v→RelV y u→r x y H Q→
  wpAny (model X.prog X.w) X.A (f v u) (EP X pins σ Q) X.xe s
def UnR (X:Cx) (f:Value→Sem Value) (r:V→Hp→VK→Prop):Prop:=
 ∀ (pins:List (Addr × Obj)) (s:Shared) (σ:St) (H:Hp) (x:V) (v:Value) (Q:VK),Inv X pins σ H s→RelV x v→r x H Q→
  wpAny (model X.prog X.w) X.A (f v) (EP X pins σ Q) X.xe s
def q2i (X:Cx) (f:Value) (r:List V→Hp→VK→Prop):Prop:=
 ∀ (pins:List (Addr × Obj)) (s:Shared) (σ:St) (H:Hp) (xs:List V) (us:List Value) (Q:VK),Inv X pins σ H s→Vals xs us→r xs H Q→
  wpAny (model X.prog X.w) X.A (call f us) (EP X pins σ Q) X.xe s
def tOp (r:R2) (ta tb:TE):TE:=fun σ H Q=>ta σ H fun x H1=>tb σ H1 fun y H2=>r x y H2 Q
def tUn (r:V→Hp→VK→Prop) (ta:TE):TE:=fun σ H Q=>ta σ H fun x H1=>r x H1 Q
inductive rII (C:Int→Int→Prop) (g:Int→Int→V) (x y:V) (H:Hp) (Q:VK):Prop
 | mk (i j:Int):(x=.int i)→(y=.int j)→(C i j)→(Q (g i j) H)→rII C g x y H Q
def rI (C:Int→Int→Prop) (g:Int→Int→V):R2:=fun x y H Q=>rII C g x y H Q
inductive rI0I (g:Int→Int→V) (x y:V) (H:Hp) (Q:VK):Prop
 | mk (i j:Int):(x=.int i)→(y=.int j)→(Q (g i j) H)→rI0I g x y H Q
def rI0 (g:Int→Int→V):R2:=fun x y H Q=>rI0I g x y H Q
def rU (g:Int→V):V→Hp→VK→Prop:=fun x H Q=>∃ i,x=.int i∧Q (g i) H
section
variable {X:Cx} {a b c:Expr} {ta tb tc:TE} {pos:Pos}
theorem binT (ha:PE X a ta) (hb:PE X b tb) {pins:List (Addr × Obj)} {s:Shared} {σ:St} {H:Hp} {R:V→V→Hp→Prop} (I:Inv X pins σ H s)
  (h:ta σ H fun x H1=>tb σ H1 fun y H2=>R x y H2) {Q:Value→Shared→Prop} {f:Value→Value→Sem Value}
  (hf:∀ v u s2 x y H2,Inv X pins σ H2 s2→RelV x v→RelV y u→R x y H2→wpAny (model X.prog X.w) X.A (f v u) Q X.xe s2) :
  wpAny (model X.prog X.w) X.A (eval a X.env) (fun v s₁=>wpAny (model X.prog X.w) X.A (eval b X.env) (fun u s₂=>wpAny (model X.prog X.w) X.A (f v u) Q X.xe s₂) X.xe s₁) X.xe s:=by
 refine thn (ha pins s σ H _ I h) fun v s1 zz28=>q0t zz28 fun x H1 I1 r1 q1=>?_
 refine thn (hb pins s1 σ H1 _ I1 q1) fun u s2 zz29=>q0t zz29 fun y H2 I2 r2 q2=>?_
 exact hf v u s2 x y H2 I2 r1 r2 q2
theorem q0o {op:Operator} {r:R2} (ho:OpR X (binaryOp op) r) (ha:PE X a ta) (hb:PE X b tb):PE X (.BinOp a op b pos) (tOp r ta tb):=by
 intro pins s σ H Q I h
 exact wpAny_BinOp (binT ha hb I h fun v u s2 x y H2 I2 rx ry q=>ho pins s2 σ H2 x y v u Q I2 rx ry q)
theorem pe_un {op:UnaryOp} {r:V→Hp→VK→Prop} (ho:UnR X (unaryOp op) r) (ha:PE X a ta):PE X (.UnaryOp op a pos) (tUn r ta):=by
 intro pins s σ H Q I h
 exact UnaryOp_ (thn (ha pins s σ H _ I h) fun v s1 zz30=>q0t zz30 fun x H1 I1 r1 q1=>ho pins s1 σ H1 x v Q I1 r1 q1)
theorem opI {f:Value→Value→Sem Value} {C:Int→Int→Prop} {g:Int→Int→Int}
  (rule:∀ (i j:Int) (t u:Tok) (s:Shared) (Q:Value→Shared→Prop) (E:Value→Shared→Prop),C i j→Q (.int (g i j) s.toks) { s with toks:=s.toks+1 }→wpAny (model X.prog X.w) X.A (f (.int i t) (.int j u)) Q E s) :
  OpR X f (rI C fun i j=>.int (g i j)):=by
 intro pins s σ H x y v u Q I rx ry h
 obtain ⟨i,j,rfl,rfl,hc,q⟩:=h
 obtain ⟨t,rfl⟩:=rx
 obtain ⟨t',rfl⟩:=ry
 exact rule i j t t' s _ _ hc ⟨.int (g i j),H,I.tok _,⟨_,rfl⟩,q⟩
theorem opI0 {f:Value→Value→Sem Value} {g:Int→Int→Int}
  (rule:∀ (i j:Int) (t u:Tok) (s:Shared) (Q:Value→Shared→Prop) (E:Value→Shared→Prop),Q (.int (g i j) s.toks) { s with toks:=s.toks+1 }→wpAny (model X.prog X.w) X.A (f (.int i t) (.int j u)) Q E s) :
  OpR X f (rI0 fun i j=>.int (g i j)):=by
 intro pins s σ H x y v u Q I rx ry h
 obtain ⟨i,j,rfl,rfl,q⟩:=h
 obtain ⟨t,rfl⟩:=rx
 obtain ⟨t',rfl⟩:=ry
 exact rule i j t t' s _ _ ⟨.int (g i j),H,I.tok _,⟨_,rfl⟩,q⟩
theorem opB0 {f:Value→Value→Sem Value} {g:Int→Int→Bool}
  (rule:∀ (i j:Int) (t u:Tok) (s:Shared) (Q:Value→Shared→Prop) (E:Value→Shared→Prop),Q (.bool (g i j)) s→wpAny (model X.prog X.w) X.A (f (.int i t) (.int j u)) Q E s) :
  OpR X f (rI0 fun i j=>.bl (g i j)):=by
 intro pins s σ H x y v u Q I rx ry h
 obtain ⟨i,j,rfl,rfl,q⟩:=h
 obtain ⟨t,rfl⟩:=rx
 obtain ⟨t',rfl⟩:=ry
 exact rule i j t t' s _ _ ⟨.bl (g i j),H,I,rfl,q⟩
def CDiv (i j:Int):Prop:=0 < j∧j < 1073741824
def CPow (i j:Int):Prop:=0≤j∧j≤1000000∧i.natAbs < 2 ^ 64
def CMul (i j:Int):Prop:=(-(2 ^ 64) < i∧i < 2 ^ 64)∨(-(2 ^ 64) < j∧j < 2 ^ 64)
theorem CMul.ok {i j:Int} (h:CMul i j):IntMulOk i j:=by
 rcases h with ⟨h1,h2⟩ | ⟨h1,h2⟩
 ·exact .of_left (intBits_le_64 h1 h2)
 ·exact .of_right (intBits_le_64 h1 h2)
theorem q2c:OpR X (binaryOp .Add) (rI0 fun i j=>.int (i+j)):=opI0 fun _ _ _ _ _ _ _ q=>add_int q
theorem q61:OpR X (binaryOp .Sub) (rI0 fun i j=>.int (i - j)):=opI0 fun _ _ _ _ _ _ _ q=>sub_int q
theorem op_mul:OpR X (binaryOp .Mult) (rI CMul fun i j=>.int (i*j)):=opI fun _ _ _ _ _ _ _ hc q=>mul_int q hc.ok
theorem op_fdiv:OpR X (binaryOp .FloorDiv) (rI CDiv fun i j=>.int (i / j)):=opI fun i j _ _ _ _ _ hc q=>by
 have h1:(0:Int) < j:=hc.1
 have h2:j < 1073741824:=hc.2
 exact floordiv_int (by omega) (by rw [Int.fdiv_eq_ediv_of_nonneg i (by omega)];exact q) (.inl (PyProof.noPylong_small (by omega)))
theorem q13:OpR X (binaryOp .Mod) (rI (fun _ j=>0 < j) fun i j=>.int (i % j)):=opI fun i j _ _ _ _ _ hc q=>by
 have h1:(0:Int) < j:=hc
 exact mod_int' (by omega) (by rw [Int.fmod_eq_emod_of_nonneg i (by omega)];exact q)
theorem q8h:OpR X (binaryOp .Pow) (rI CPow fun i j=>.int (i ^ j.toNat)):=opI fun _ _ _ _ _ _ _ hc q=>pow_int_small hc.1 hc.2.1 hc.2.2 q
theorem unI {f:Value→Sem Value} {g:Int→Int}
  (rule:∀ (i:Int) (t:Tok) (s:Shared) (Q:Value→Shared→Prop) (E:Value→Shared→Prop),Q (.int (g i) s.toks) { s with toks:=s.toks+1 }→wpAny (model X.prog X.w) X.A (f (.int i t)) Q E s) :
  UnR X f (rU fun i=>.int (g i)):=by
 intro pins s σ H x v Q I rx h
 obtain ⟨i,rfl,q⟩:=h
 obtain ⟨t,rfl⟩:=rx
 exact rule i t s _ _ ⟨.int (g i),H,I.tok _,⟨_,rfl⟩,q⟩
theorem un_neg:UnR X (unaryOp .USub) (rU fun i=>.int (-i)):=unI fun _ _ _ _ _ q=>neg_int q
end
def scal:V→V→Bool
 | .non,.non=>true | .non,.int _=>true | .int _,.non=>true | .non,.bl _=>true | .bl _,.non=>true | .non,.str _=>true | .str _,.non=>true
 | .int _,.int _=>true | .bl _,.bl _=>true | .str _,.str _=>true | .byt _,.byt _=>true
 | .int _,.str _=>true | .str _,.int _=>true | .bl _,.str _=>true | .str _,.bl _=>true
 | _,_=>false
def rEq:R2:=fun x y H Q=>scal x y=true∧Q (.bl (decide (x=y))) H
def rNe:R2:=fun x y H Q=>scal x y=true∧Q (.bl (!decide (x=y))) H
theorem q25 {i j:Int}:decide (V.int i=V.int j)=(i == j):=by
 rw [Bool.eq_iff_iff]
 simp
theorem dec_bl {i j:Bool}:decide (V.bl i=V.bl j)=(i == j):=by
 rw [Bool.eq_iff_iff]
 simp
theorem dec_str {i j:Str}:decide (V.str i=V.str j)=(i == j):=by
 rw [Bool.eq_iff_iff]
 simp
theorem dec_byt {i j:Array UInt8}:decide (V.byt i=V.byt j)=(i.toList == j.toList):=by
 rw [Bool.eq_iff_iff]
 cases i
 cases j
 simp
section
variable {X:Cx} {a b c:Expr} {ta tb tc:TE} {pos:Pos}
theorem q0y {pins:List (Addr × Obj)} {σ:St} {H:Hp} {s:Shared} {Q:VK} {k k':Bool} (I:Inv X pins σ H s) (q:Q (.bl k) H) (e:k=k'):EP X pins σ Q (.bool k') s:=by
 subst e
 exact ⟨.bl k,H,I,rfl,q⟩
theorem q2z:OpR X (compareOp .Eq) rEq:=by
 intro pins s σ H x y v u Q I rx ry h
 obtain ⟨hs,q⟩:=h
 cases x with
 | non=>
  cases rx
  cases y with
  | non=>cases ry;exact PySem.EqNone.eq_none_none (q0y I q (by simp))
  | bl j=>cases ry;exact PySem.EqNone.eq_none_bool (q0y I q (by simp))
  | int j=>obtain ⟨t',rfl⟩:=ry;exact PySem.EqNone.eq_none_int (q0y I q (by simp))
  | str j=>obtain ⟨t',rfl⟩:=ry;exact PySem.EqNone.eq_none_str (q0y I q (by simp))
  | _=>exact absurd (show false=true from hs) Bool.false_ne_true
 | bl i=>
  cases rx
  cases y with
  | non=>cases ry;exact PySem.EqNone.eq_bool_none (q0y I q (by simp))
  | bl j=>cases ry;exact eq_bool (q0y I q dec_bl)
  | str j=>obtain ⟨t',rfl⟩:=ry;exact PySem.EqMixed.eq_bool_str (q0y I q (by simp))
  | _=>exact absurd (show false=true from hs) Bool.false_ne_true
 | int i=>
  obtain ⟨t,rfl⟩:=rx
  cases y with
  | non=>cases ry;exact PySem.EqNone.eq_int_none (q0y I q (by simp))
  | int j=>obtain ⟨t',rfl⟩:=ry;exact eq_int (q0y I q q25)
  | str j=>obtain ⟨t',rfl⟩:=ry;exact PySem.EqMixed.eq_int_str (q0y I q (by simp))
  | _=>exact absurd (show false=true from hs) Bool.false_ne_true
 | str i=>
  obtain ⟨t,rfl⟩:=rx
  cases y with
  | non=>cases ry;exact PySem.EqNone.eq_str_none (q0y I q (by simp))
  | bl j=>cases ry;exact PySem.EqMixed.eq_str_bool (q0y I q (by simp))
  | int j=>obtain ⟨t',rfl⟩:=ry;exact PySem.EqMixed.eq_str_int (q0y I q (by simp))
  | str j=>obtain ⟨t',rfl⟩:=ry;exact eq_str (q0y I q dec_str)
  | _=>exact absurd (show false=true from hs) Bool.false_ne_true
 | byt i=>
  obtain ⟨t,rfl⟩:=rx
  cases y with
  | byt j=>obtain ⟨t',rfl⟩:=ry;exact W.eq_bytes (q0y I q dec_byt)
  | _=>exact absurd (show false=true from hs) Bool.false_ne_true
 | _=>cases y <;> exact absurd (show false=true from hs) Bool.false_ne_true
theorem op_ne:OpR X (compareOp .NotEq) rNe:=by
 intro pins s σ H x y v u Q I rx ry h
 obtain ⟨hs,q⟩:=h
 cases x with
 | non=>
  cases rx
  cases y with
  | non=>cases ry;exact PySem.EqNone.ne_none_none (q0y I q (by simp))
  | bl j=>cases ry;exact PySem.EqNone.ne_none_bool (q0y I q (by simp))
  | int j=>obtain ⟨t',rfl⟩:=ry;exact PySem.EqNone.ne_none_int (q0y I q (by simp))
  | str j=>obtain ⟨t',rfl⟩:=ry;exact PySem.EqNone.ne_none_str (q0y I q (by simp))
  | _=>exact absurd (show false=true from hs) Bool.false_ne_true
 | bl i=>
  cases rx
  cases y with
  | non=>cases ry;exact PySem.EqNone.ne_bool_none (q0y I q (by simp))
  | bl j=>cases ry;exact ne_bool (q0y I q (congrArg not dec_bl))
  | str j=>obtain ⟨t',rfl⟩:=ry;exact PySem.EqMixed.ne_bool_str (q0y I q (by simp))
  | _=>exact absurd (show false=true from hs) Bool.false_ne_true
 | int i=>
  obtain ⟨t,rfl⟩:=rx
  cases y with
  | non=>cases ry;exact PySem.EqNone.ne_int_none (q0y I q (by simp))
  | int j=>obtain ⟨t',rfl⟩:=ry;exact ne_int (q0y I q (congrArg not q25))
  | str j=>obtain ⟨t',rfl⟩:=ry;exact PySem.EqMixed.ne_int_str (q0y I q (by simp))
  | _=>exact absurd (show false=true from hs) Bool.false_ne_true
 | str i=>
  obtain ⟨t,rfl⟩:=rx
  cases y with
  | non=>cases ry;exact PySem.EqNone.ne_str_none (q0y I q (by simp))
  | bl j=>cases ry;exact PySem.EqMixed.ne_str_bool (q0y I q (by simp))
  | int j=>obtain ⟨t',rfl⟩:=ry;exact PySem.EqMixed.ne_str_int (q0y I q (by simp))
  | str j=>obtain ⟨t',rfl⟩:=ry;exact ne_str (q0y I q (congrArg not dec_str))
  | _=>exact absurd (show false=true from hs) Bool.false_ne_true
 | byt i=>
  obtain ⟨t,rfl⟩:=rx
  cases y with
  | byt j=>obtain ⟨t',rfl⟩:=ry;exact W.ne_bytes (q0y I q (congrArg not dec_byt))
  | _=>exact absurd (show false=true from hs) Bool.false_ne_true
 | _=>cases y <;> exact absurd (show false=true from hs) Bool.false_ne_true
theorem op_lt:OpR X (compareOp .Lt) (rI0 fun i j=>.bl (decide (i < j))):=opB0 fun _ _ _ _ _ _ _ q=>lt_int q
theorem z0l:OpR X (compareOp .LtE) (rI0 fun i j=>.bl (decide (i≤j))):=opB0 fun _ _ _ _ _ _ _ q=>le_int q
theorem op_gt:OpR X (compareOp .Gt) (rI0 fun i j=>.bl (decide (j < i))):=opB0 fun _ _ _ _ _ _ _ q=>gt_int q
theorem q0u (b:Expr) {op:CmpOp} (h:op≠.In:=by decide) (h2:op≠.NotIn:=by decide):behindInMarks op b=false:=by
 have e1:(op == CmpOp.In)=false:=by cases op <;> first | rfl | exact absurd rfl h
 have e2:(op == CmpOp.NotIn)=false:=by cases op <;> first | rfl | exact absurd rfl h2
 cases b <;> simp [behindInMarks,e1,e2]
theorem q4q {op:CmpOp} {r:R2} (ho:OpR X (compareOp op) r) (ha:PE X a ta) (hb:PE X b tb) (hm:behindInMarks op b=false):PE X (.Compare a [op] [b] pos) (tOp r ta tb):=by
 intro pins s σ H Q I h
 exact wpAny_Compare1 (binT ha hb I h fun v u s2 x y H2 I2 rx ry q=>ho pins s2 σ H2 x y v u Q I2 rx ry q) hm
inductive blI (x:V) (H:Hp) (Q:Bool→Hp→Prop):Prop
 | mk (k:Bool):(x=.bl k)→(Q k H)→blI x H Q
def tTest (t:TE):TT:=fun σ H Q=>t σ H fun x H'=>blI x H' Q
theorem q0p {op:CmpOp} {r:R2} (ho:OpR X (compareOp op) r) (ha:PE X a ta) (hb:PE X b tb) (hm:behindInMarks op b=false):PT X (.Compare a [op] [b] pos) (tTest (tOp r ta tb)):=by
 intro pins s σ H Q I h
 refine wpAny_isTrue_Compare1 (thn (ha pins s σ H _ I h) fun v s1 zz31=>q0t zz31 fun x H1 I1 r1 q1=>thn (hb pins s1 σ H1 _ I1 q1) fun u s2 zz32=>q0t zz32 fun y H2 I2 r2 q2=>
  thn (ho pins s2 σ H2 x y v u _ I2 r1 r2 q2) fun c s3 ⟨z,H3,I3,r3,k,e,q3⟩=>?_) hm
 subst e
 cases r3
 exact wpAny_truthy_bool ⟨H3,I3,q3⟩
def tChain (r r':R2) (ta tb tc:TE):TE:=fun σ H Q=>ta σ H fun x H1=>tb σ H1 fun y H2=>r x y H2 fun z H3=>∃ k,z=.bl k∧
 (if k=true then tc σ H3 fun w' H4=>r' y w' H4 Q else Q (.bl false) H3)
theorem z1n {op op':CmpOp} {r r':R2} (ho:OpR X (compareOp op) r) (ho':OpR X (compareOp op') r') (ha:PE X a ta) (hb:PE X b tb) (hc:PE X c tc)
  (hm:lastMarks [op,op'] [b,c]=false:=by with_unfolding_all rfl):PE X (.Compare a [op,op'] [b,c] pos) (tChain r r' ta tb tc):=by
 intro pins s σ H Q I h
 refine Compare_chain (thn (ha pins s σ H _ I h) fun v s1 zz33=>q0t zz33 fun x H1 I1 r1 q1=>chain_link (thn (hb pins s1 σ H1 _ I1 q1) fun u s2 zz34=>q0t zz34 fun y H2 I2 r2 q2=>
  thn (ho pins s2 σ H2 x y v u _ I2 r1 r2 q2) fun d s3 ⟨z,H3,I3,r3,k,e,q3⟩=>?_)) hm
 subst e
 cases r3
 refine wpAny_truthy_bool ?_
 cases k with
 | false=>exact ite_ff ⟨.bl false,H3,I3,rfl,q3⟩
 | true=>exact ite_tt (chain_last (thn (hc pins s3 σ H3 _ I3 q3) fun w' s4 ⟨z',H4,I4,r4,q4⟩=>ho' pins s4 σ H4 y z' u w' Q I4 r2 r4 q4))
theorem z1k {op op':CmpOp} {r r':R2} (ho:OpR X (compareOp op) r) (ho':OpR X (compareOp op') r') (ha:PE X a ta) (hb:PE X b tb) (hc:PE X c tc)
  (hm:lastMarks [op,op'] [b,c]=false:=by with_unfolding_all rfl):PT X (.Compare a [op,op'] [b,c] pos) (tTest (tChain r r' ta tb tc)):=by
 intro pins s σ H Q I h
 refine isTrue_chain (thn (ha pins s σ H _ I h) fun v s1 zz35=>q0t zz35 fun x H1 I1 r1 q1=>test_link (thn (hb pins s1 σ H1 _ I1 q1) fun u s2 zz36=>q0t zz36 fun y H2 I2 r2 q2=>
  thn (ho pins s2 σ H2 x y v u _ I2 r1 r2 q2) fun d s3 ⟨z,H3,I3,r3,k,e,q3⟩=>?_)) hm
 subst e
 cases r3
 refine wpAny_truthy_bool ?_
 cases k with
 | false=>
  obtain ⟨k',e',q'⟩:=q3
  cases e'
  exact ite_ff ⟨H3,I3,q'⟩
 | true=>
  refine ite_tt (test_last (thn (hc pins s3 σ H3 _ I3 q3) fun w' s4 ⟨z',H4,I4,r4,q4⟩=>thn (ho' pins s4 σ H4 y z' u w' _ I4 r2 r4 q4) fun d' s5 ⟨z2,H5,I5,r5,k2,e2,q5⟩=>?_))
  subst e2
  cases r5
  exact wpAny_truthy_bool ⟨H5,I5,q5⟩
theorem z1u:(sizeLine:Nat) < 2 ^ 63:=by rw [sizeLine_eq];decide
theorem vals1 {x:V} {us:List Value} (r:Vals [x] us):∃ u,us=[u]∧RelV x u:=by
 cases r with
 | cons r1 r2=>cases r2;exact ⟨_,rfl,r1⟩
theorem vals2 {x y:V} {us:List Value} (r:Vals [x,y] us):∃ u w',us=[u,w']∧RelV x u∧RelV y w':=by
 cases r with
 | cons r1 r2=>
  cases r2 with
  | cons r3 r4=>cases r4;exact ⟨_,_,rfl,r1,r3⟩
theorem q8v (hc:X.calm=true):q2i X (.builtin "max") (fun xs H Q=>∃ i j,xs=[.int i,.int j]∧Q (.int (if j > i then j else i)) H):=by
 intro pins s σ H xs us Q I r h
 obtain ⟨i,j,rfl,q⟩:=h
 obtain ⟨u,w',rfl,⟨t,rfl⟩,⟨t',rfl⟩⟩:=vals2 r
 refine max_two_ints (I.ok.hd hc) fun h' tk k=>⟨_,H,I.kept k,?_,q⟩
 by_cases hj:j > i
 ·rw [if_pos hj,if_pos hj];exact ⟨_,rfl⟩
 ·rw [if_neg hj,if_neg hj];exact ⟨_,rfl⟩
end
end L2
namespace L2
open PySem PySem.Spec PyProof.Rows
structure ObjM (h:Heap) (x dx C:Addr) (mA:Str→Option Value):Prop where
 obj:h.get? x=some (W.instObj C dx)
 ns:h.Ns1 dx mA
 ne:dx≠x
theorem lookIn_ns {h:Heap} {dx:Addr} {mA:Str→Option Value} (n:h.Ns1 dx mA):∃ od,h.get? dx=some od∧∀ name,W.lookIn name od=some (mA name):=by
 obtain ⟨o,es,ep,ho,hd,hk,_,hm⟩:=n
 refine ⟨o,ho,fun name=>?_⟩
 have e:=hm name
 unfold nsFind findBy at e
 rw [← Array.find?_toList] at e
 unfold W.lookIn
 rw [hd]
 dsimp only
 split
 ·rename_i y q
  rw [q] at e
  exact congrArg some e
 ·rename_i q
  rw [q] at e
  have a:es.toList.any (·.refKey)=false:=by
   rw [List.any_eq_false]
   intro y hy
   obtain ⟨z,t,hkey⟩:=hk y (Array.mem_toList_iff.mp hy)
   simp [DictEntry.refKey,hkey]
  have a':¬ es.toList.any (·.refKey)=true:=by rw [a];exact Bool.false_ne_true
  rw [if_neg a']
  exact congrArg some e
theorem ObjM.look {h:Heap} {x dx C:Addr} {mA:Str→Option Value} (I:ObjM h x dx C mA):∃ od,W.InstAt h x (W.instObj C dx) C (some od)∧∀ name,W.lookIn name od=some (mA name):=
 let ⟨od,ho,hl⟩:=lookIn_ns I.ns
 ⟨od,⟨I.obj,rfl,rfl,ho⟩,hl⟩
section
variable {prog:Program} {w:World} {A:Around} {E:Value→Shared→Prop} {s:Shared} {K:W.Frag} {x dx C f:Addr} {mA:Str→Option Value} {name:Str} {v:Value}
theorem get_map {expr:Bool} {Q:Value→Shared→Prop} (X:K.In s.heap) (I:ObjM s.heap x dx C mA) (hg:W.plainGet K C name=true) (hh:W.hasDictIn K C=true)
  (ha:W.findIn K (.ref C) name=some none) (hv:mA name=some v) (hv':W.handedIn v=true) (h:Q v { s with toks:=s.toks+1 }) :
  wpAny (model prog w) A (getAttr (.ref x) name expr) Q E s:=by
 obtain ⟨od,J,hl⟩:=I.look
 exact W.get_value X J (W.plainGet_of hg).1 (W.findObj_own hh ha rfl (by rw [hl,hv])) hv' h
theorem set_map {ns:List Str} {Q:Unit→Shared→Prop} (X:K.In s.heap) (I:ObjM s.heap x dx C mA)
  (hs:W.findIn K (.ref C) "__setattr__" = some (some (.builtin "object.__setattr__"))) (hp:W.plainOver K C=true) (ht:W.takerIn K C name=some none) (hh:W.hasDictIn K C=true)
  (hw:PySem.Within mA ns) (hsz:ns.length≤sizeLine)
  (h:∀ h',ObjM h' x dx C (fun y=>if y=name then some v else mA y)→Heap.SameBut dx s.heap h'→Q () { s with heap:=h',toks:=s.toks+2 }) :
  wpAny (model prog w) A (setAttr (.ref x) name v) Q E s:=by
 obtain ⟨od,J,hl⟩:=I.look
 refine W.set_plain X J hs (W.osa_open (s:={ s with toks:=s.toks+1 }) (r:=none) X J hp ht fun b=>?_)
 obtain ⟨cd,hc,hd'⟩:=W.any_some hh
 have hx:s.heap.get? x=some ⟨.ref C,some dx,.plain,#[]⟩:=I.obj
 refine wpAny_bind (wpAny_pure (wpAny_bind (wpAny_bind (wpAny_loadPart hx (wpAny_bind (W.Looks.here (s:={ s with toks:=s.toks+1 }) (W.looks_clsIn X hc) ?_))))))
 rw [hd']
 refine wpAny_pure (a:=some dx) (wpAny_bind (wpAny_pure (wpAny_bind ?_)))
 refine wpAny_nsSet1 (s:={ s with toks:=s.toks+1 }) I.ns fun h' hn2 hs2=>?_
 obtain ⟨oD,esD,epD,hoD,hdD,hcD⟩:=hn2.count (PySem.Within.cons name v hw)
 refine wpAny_bind (wpAny_lookBehind hoD (by rw [hdD];exact pastItsLine_dict (Nat.le_trans hcD (by rw [List.length_cons];omega))) ?_)
 exact wpAny_pure (h _ ⟨(hs2.2 _ (Ne.symm I.ne)).trans I.obj,hn2,I.ne⟩ hs2)
theorem make_map {R:Result→Shared→Prop} {vs:List Value} {kw:List (Str × Value)} (X:K.In s.heap) (hm:W.makesIn K C=true)
  (hi:W.findIn K (.ref C) "__init__" = some (some (.ref f))) (hf:W.typeIn K (.ref f)=some (.type "function"))
  (h:codeAny (model prog w) (A.under (.builtin "type.__call__" ⟨.ref C::vs,kw⟩)) (.call (.ref f) ⟨.ref (s.heap.objs.size+1)::vs,kw⟩) (W.InitBack (s.heap.objs.size+1) R)
   { s with heap:=(s.heap.push W.emptyDict).push (W.instObj C s.heap.objs.size) }) :
  codeAny (model prog w) A (.call (.ref C) ⟨vs,kw⟩) R s:=by
 obtain ⟨hh,g,d,t,os⟩:=s
 exact W.make_core (W.makes_of X hm) (W.looks_findIn X hi) (fun self=>W.bind_fn X self hf) (.inl rfl) h
end
def putF (f:Str) (v:V):List (Str × V)→List (Str × V)
 | []=>[(f,v)]
 | (g,x)::r=>if g=f then (g,v)::r else (g,x)::putF f v r
theorem q2b (f g:Str) (v:V):∀ fs:List (Str × V),(putF f v fs).lookup g=if g=f then some v else fs.lookup g
 | []=>by
  show List.lookup g [(f,v)]=_
  by_cases h:g=f
  ·have hb:(g == f)=true:=beq_iff_eq.mpr h
   simp only [List.lookup,hb,if_pos h]
  ·have hb:(g == f)=false:=beq_eq_false_iff_ne.mpr h
   simp only [List.lookup,hb,if_neg h]
 | (k,x)::r=>by
  have ih:=q2b f g v r
  rw [show putF f v ((k,x)::r)=(if k=f then (k,v)::r else (k,x)::putF f v r) from rfl]
  by_cases hk:k=f
  ·rw [if_pos hk]
   by_cases h:g=k
   ·have hb:(g == k)=true:=beq_iff_eq.mpr h
    simp only [List.lookup,hb,if_pos (h.trans hk)]
   ·have hb:(g == k)=false:=beq_eq_false_iff_ne.mpr h
    simp only [List.lookup,hb,if_neg (fun e:g=f=>h (e.trans hk.symm))]
  ·rw [if_neg hk]
   by_cases h:g=k
   ·have hb:(g == k)=true:=beq_iff_eq.mpr h
    simp only [List.lookup,hb,if_neg (fun e:g=f=>hk (h.symm.trans e))]
   ·have hb:(g == k)=false:=beq_eq_false_iff_ne.mpr h
    simp only [List.lookup,hb]
    exact ih
theorem q5j (f:Str) (v:V):∀ fs:List (Str × V),f∈(putF f v fs).map (·.1)∧∀ g,g∈fs.map (·.1)→g∈(putF f v fs).map (·.1)
 | []=>⟨by simp [putF],fun g h=>by simp at h⟩
 | (k,x)::r=>by
  obtain ⟨i1,i2⟩:=q5j f v r
  rw [show putF f v ((k,x)::r)=(if k=f then (k,v)::r else (k,x)::putF f v r) from rfl]
  by_cases hk:k=f
  ·rw [if_pos hk]
   subst hk
   exact ⟨by simp,fun g h=>by simpa using h⟩
  ·rw [if_neg hk]
   refine ⟨?_,fun g h=>?_⟩
   ·rw [List.map_cons]
    exact List.mem_cons_of_mem _ i1
   ·rw [List.map_cons] at h ⊢
    rcases List.mem_cons.mp h with e | e
    ·exact List.mem_cons.mpr (.inl e)
    ·exact List.mem_cons_of_mem _ (i2 g e)
theorem q5o (f:Str) (v:V):∀ fs:List (Str × V),(putF f v fs).length≤fs.length+1
 | []=>by simp [putF]
 | (k,x)::r=>by
  have ih:=q5o f v r
  rw [show putF f v ((k,x)::r)=(if k=f then (k,v)::r else (k,x)::putF f v r) from rfl]
  by_cases hk:k=f
  ·rw [if_pos hk,List.length_cons,List.length_cons];omega
  ·rw [if_neg hk,List.length_cons,List.length_cons];omega
theorem RelO.some_of {v:V} {o:Option Value} (r:RelO (some v) o):∃ u,o=some u∧RelV v u:=by
 cases o with
 | none=>exact (show False from r).elim
 | some u=>exact ⟨u,rfl,r⟩
theorem handed_of {v:V} {u:Value} (r:RelV v u):W.handedIn u=true:=by
 cases v with
 | non=>cases (show u=Value.none from r);rfl
 | bl b=>cases (show u=Value.bool b from r);rfl
 | int i=>obtain ⟨t,e⟩:=(show ∃ t,u=Value.int i t from r);cases e;rfl
 | str x=>obtain ⟨t,e⟩:=(show ∃ t,u=Value.str x t from r);cases e;rfl
 | byt b=>obtain ⟨t,e⟩:=(show ∃ t,u=Value.bytes b t from r);cases e;rfl
 | flt b=>obtain ⟨t,e⟩:=(show ∃ t,u=Value.float b t from r);cases e;rfl
 | ref a=>cases (show u=Value.ref a from r);rfl
 | ty n=>cases (show u=Value.type n from r);rfl
section
variable {P:Program} {w:World} {H H':Hp} {h h':Heap} {a C dx:Addr} {fs fs':List (Str × V)}
theorem ins_get (hok:HOk P w H h) (e:H a=some (.ins C dx fs)):∃ mA,ObjM h a dx C mA∧(∀ f,RelO (fs.lookup f) (mA f))∧PySem.Within mA (fs.map (·.1))∧fs.length≤1000∧H dx=some (.own a):=by
 obtain ⟨d,z,ne,ob,mA,n,r,q⟩:=(show ObjOk P w H h a (.ins C dx fs) from hok a _ e)
 exact ⟨mA,⟨ob,n,ne⟩,r,q,z,d⟩
end
structure Cls (K:W.Frag) (C:Addr):Prop where
 pg:W.plainGet K C Str.empty=true
 hd:W.hasDictIn K C=true
 po:W.plainOver K C=true
 sa:W.findIn K (.ref C) "__setattr__" = some (some (.builtin "object.__setattr__"))
theorem Cls.get {K:W.Frag} {C:Addr} (c:Cls K C) (f:Str):W.plainGet K C f=true:=c.pg
def NoAttr (K:W.Frag) (C:Addr) (f:Str):Prop:=W.findIn K (.ref C) f=some none
theorem NoAttr.taker {K:W.Frag} {C:Addr} {f:Str} (n:NoAttr K C f):W.takerIn K C f=some none:=by
 unfold W.takerIn
 rw [show W.findIn K (.ref C) f=some none from n]
 rfl
section
variable {X:Cx} {pins:List (Addr × Obj)} {σ:St} {H:Hp} {s:Shared} {a C dx:Addr} {fs:List (Str × V)} {f:Str} {v:V} {A:Around} {E:Value→Shared→Prop}
theorem getattr_ok {b:Bool} {Q:Value→Shared→Prop} (I:Inv X pins σ H s) (e:H a=some (.ins C dx fs)) (c:Cls X.K C) (n:NoAttr X.K C f) (l:fs.lookup f=some v)
  (h:∀ u s',Inv X pins σ H s'→RelV v u→Q u s'):wpAny (model X.prog X.w) A (getAttr (.ref a) f b) Q E s:=by
 obtain ⟨mA,O,r,_,_,_⟩:=ins_get I.hok e
 obtain ⟨u,hu,ru⟩:=RelO.some_of (v:=v) (o:=mA f) (by rw [← l];exact r f)
 exact get_map I.kIn O (c.get f) c.hd n hu (handed_of ru) (h u _ (I.tok _) ru)
theorem setattr_ok {y:V} {u:Value} {Q:Unit→Shared→Prop} (I:Inv X pins σ H s) (e:H a=some (.ins C dx fs)) (c:Cls X.K C) (n:NoAttr X.K C f) (hl:fs.length < 1000) (ry:RelV y u)
  (h:∀ s',Inv X pins σ (upd H a (.ins C dx (putF f y fs))) s'→Q () s'):wpAny (model X.prog X.w) A (setAttr (.ref a) f u) Q E s:=by
 obtain ⟨mA,O,r,wi,_,ho⟩:=ins_get I.hok e
 have hz:(fs.map (·.1)).length≤sizeLine:=by rw [List.length_map,sizeLine_eq];omega
 refine set_map I.kIn O c.sa c.po n.taker c.hd wi hz fun h' O' sb=>h _ ?_
 have hd:∃ o,h'.get? dx=some o:=let ⟨o,_,_,e',_⟩:=O'.ns;⟨o,e'⟩
 refine I.write (x:=a) (e:=dx) (by rw [e];exact True.intro) (.inr ho) (fun b q hb z=>(sb.2 b hb).trans z) hd ?_
 refine ⟨by rw [q08 O.ne];exact ho,?_,O.ne,O'.obj,_,O'.ns,fun g=>?_,fun g hg=>?_⟩
 ·have:=q5o f y fs;omega
 ·show RelO ((putF f y fs).lookup g) (if g=f then some u else mA g)
  rw [q2b]
  by_cases q:g=f
  ·rw [if_pos q,if_pos q];exact ry
  ·rw [if_neg q,if_neg q];exact r g
 ·by_cases q:g=f
  ·rw [q];exact (q5j f y fs).1
  ·refine (q5j f y fs).2 g (wi g fun z=>hg ?_)
   show (if g=f then some u else mA g)=none
   rw [if_neg q];exact z
theorem Inv.made (I:Inv X pins σ H s):Inv X pins σ (upd (upd H s.heap.objs.size (.own (s.heap.objs.size+1))) (s.heap.objs.size+1) (.ins C s.heap.objs.size []))
  { s with heap:=(s.heap.push W.emptyDict).push (W.instObj C s.heap.objs.size) }:=by
 have e1:(s.heap.push W.emptyDict).get? s.heap.objs.size=some W.emptyDict:=Heap.get?_push_size s.heap rfl
 have e2:((s.heap.push W.emptyDict).push (W.instObj C s.heap.objs.size)).get? (s.heap.objs.size+1)=some (W.instObj C s.heap.objs.size):=by
  have:=Heap.get?_push_size (s.heap.push W.emptyDict) (o:=W.instObj C s.heap.objs.size) rfl
  rwa [Heap.size_push] at this
 have e3:(s.heap.push W.emptyDict).Ns s.heap.objs.size (fun _=>none):=⟨W.emptyDict,#[],_,e1,rfl,(fun e he=>absurd he (by simp)),fun _=>rfl⟩
 have I1:=I.laid (a:=s.heap.objs.size) (o:=.own (s.heap.objs.size+1)) (h':=s.heap.push W.emptyDict) (t':=s.toks) (fun b u q=>Heap.get?_push_of_some _ q) (Nat.le_refl _) ⟨_,e1⟩
 refine I1.laid (a:=s.heap.objs.size+1) (o:=.ins C s.heap.objs.size []) (t':=s.toks) (fun b u q=>Heap.get?_push_of_some _ q) (Nat.le_of_eq (Heap.size_push _ _)) ?_
 have ne:s.heap.objs.size≠s.heap.objs.size+1:=Nat.ne_of_lt (Nat.lt_succ_self _)
 refine ⟨by rw [q08 ne,q01],Nat.zero_le _,ne,e2,fun _=>none,(Heap.Ns1.of_empty e3).at fun o q=>Heap.get?_push_of_some _ q,fun _=>True.intro,fun y hy=>absurd rfl hy⟩
theorem attr_of {prog:Program} {w:World} {env:Env} {e:Expr} {f:Str} {pos:Pos} {s:Shared} {Q:Value→Shared→Prop} (hb:attributeBase e f env (eval e env)=eval e env)
  (h:wpAny (model prog w) A (eval e env) (fun o s₁=>wpAny (model prog w) A (getAttr o f true) Q E s₁) E s):wpAny (model prog w) A (eval (.Attribute e f pos) env) Q E s:=
 Attribute_any_ h (by rw [arm_eval_Attribute,hb])
end
def tFld (K:W.Frag) (ta:TE) (f:Str):TE:=fun σ H Q=>ta σ H fun x H1=>∃ a C dx fs v,x=.ref a∧H1 a=some (.ins C dx fs)∧Cls K C∧NoAttr K C f∧fs.lookup f=some v∧Q v H1
def sFld (K:W.Frag) (ta tv:TE) (f:Str):TS:=fun D σ H=>tv σ H fun y H1=>ta σ H1 fun x H2=>∃ a C dx fs,x=.ref a∧H2 a=some (.ins C dx fs)∧Cls K C∧NoAttr K C f∧fs.length < 1000∧
 D.nx σ (upd H2 a (.ins C dx (putF f y fs)))
section
variable {X:Cx} {o e value:Expr} {f:Str} {pos pos' tpos:Pos} {ta tv:TE}
theorem q3q (he:PE X e ta) (hb:attributeBase e f X.env (eval e X.env)=eval e X.env):PE X (.Attribute e f pos) (tFld X.K ta f):=by
 intro pins s σ H Q I h
 refine attr_of hb (thn (he pins s σ H _ I h) fun u s1 ⟨x,H1,I1,rx,a,C,dx,fs,v,ex,ea,c,n,l,q⟩=>?_)
 subst ex
 obtain rfl:u=Value.ref a:=rx
 exact getattr_ok I1 ea c n l fun u' s2 I2 ru=>⟨v,H1,I2,ru,q⟩
theorem ps_fld (ha:PE X o ta) (hv:PE X value tv) (hs:swapsWith value (some (.Attribute o f pos')) pos.line X.env=pure false):PS X (.Assign [.Attribute o f pos'] value pos) (sFld X.K ta tv f):=by
 intro pins s σ H D I h
 refine plainObj_wpAny_Assign_Attribute (thn (hv pins s σ H _ I h) fun u s1 zz38=>q0t zz38 fun y H1 I1 ry q=>thn (ha pins s1 σ H1 _ I1 q) fun ov s2 ⟨x,H2,I2,rx,a,C,dx,fs,ex,ea,c,n,l,q2⟩=>?_) hs
 subst ex
 obtain rfl:ov=Value.ref a:=rx
 exact setattr_ok I2 ea c n l ry fun s3 I3=>⟨σ,_,I3,q2⟩
end
section
variable {X:Cx} {pins:List (Addr × Obj)} {σ:St} {H:Hp} {s:Shared} {A:Around} {E:Value→Shared→Prop} {Q:Value→Shared→Prop} {c:Value} {b:Bool}
end
end L2
namespace L2
open PySem PySem.Spec PyProof.Rows
structure Room (k:Nat) (A:Around):Prop where
 hd:A.handled=none
 dp:A.depth+3*k+5 < recursionLimit
 un:A.units+16*k+200 < cLine
theorem Room.mono {j k:Nat} {A:Around} (r:Room k A) (h:j≤k):Room j A:=⟨r.hd,by have:=r.dp;omega,by have:=r.un;omega⟩
theorem Room.deeper {k:Nat} {A:Around} (r:Room (k+1) A) (env:Env):Room k (A.deeper env):=
 ⟨r.hd,by have:=r.dp;show A.depth+1+3*k+5 < _;omega,by have:=r.un;show A.units+3+16*k+200 < _;omega⟩
theorem make_depth {A:Around} {C:Addr} {us:List Value} {kw:List (Str × Value)}:(A.under (.builtin "type.__call__" ⟨.ref C::us,kw⟩)).depth=A.depth+1:=by
 first | rfl | simp [Around.under,Code.weight,Code.isCreation,Code.isGuard,Code.isCaller,Code.frames,Code.isFrame,guardIds]
theorem make_units {A:Around} {C:Addr} {us:List Value} {kw:List (Str × Value)}:(A.under (.builtin "type.__call__" ⟨.ref C::us,kw⟩)).units=A.units+1:=by
 first | rfl | simp [Around.under,Code.cUnits,Code.frames,Code.isFrame]
theorem Room.make {k:Nat} {A:Around} (r:Room (k+1) A) (C:Addr) (us:List Value) (kw:List (Str × Value)):Room k (A.under (.builtin "type.__call__" ⟨.ref C::us,kw⟩)):=
 ⟨r.hd,by have:=r.dp;rw [make_depth];omega,by have:=r.un;rw [make_units];omega⟩
theorem Room.depth {k:Nat} {A:Around} (r:Room k A):A.depth < recursionLimit:=by have:=r.dp;omega
theorem Room.units {k:Nat} {A:Around} (r:Room k A):A.units+64 < cLine:=by have:=r.un;omega
def tNil:TA:=fun _ H Q=>Q [] H
def tCons (ta:TE) (tr:TA):TA:=fun σ H Q=>ta σ H fun x H1=>tr σ H1 fun xs H2=>Q (x::xs) H2
section
variable {X:Cx} {e:Expr} {es:List Expr} {te:TE} {t:TA} {pos:Pos}
theorem q04:PA X [] tNil:=fun _ _ _ _ H Q I h=>Calls.spliced_nil ⟨[],H,I,.nil,h⟩
theorem q00 (ha:PE X e te) (hr:PA X es t) (hs:starEach (e::es) X.env=(false,eval e X.env)::starEach es X.env:=by rfl):PA X (e::es) (tCons te t):=by
 intro pos pins s σ H Q I h
 rw [hs]
 show wpAny _ _ (spliced ((false,eval e X.env)::backTo pos (starEach es X.env))) _ _ s
 refine Calls.spliced_cons (thn (ha pins s σ H _ I h) fun u s1 zz40=>q0t zz40 fun x H1 I1 r1 q1=>?_)
 exact thn (hr pos pins s1 σ H1 _ I1 q1) fun us s2 zz41=>q3t zz41 fun xs H2 I2 r2 q2=>⟨x::xs,H2,I2,.cons r1 r2,q2⟩
def tTup (t:TA):TE:=fun σ H Q=>t σ H fun xs H1=>xs.length≤sizeLine∧∀ p,H1 p=none→Q (.ref p) (upd H1 p (.tup xs))
def tLst (t:TA):TE:=fun σ H Q=>t σ H fun xs H1=>xs.length≤sizeLine∧∀ p,H1 p=none→Q (.ref p) (upd H1 p (.lst xs))
theorem q1u {x1} (h:PA X es t):PE X (.Tuple es x1 pos) (tTup t):=by
 intro pins s σ H Q I hq
 refine wpAny_Tuple_spliced (thn (h pos pins s σ H _ I hq) fun us s1 ⟨xs,H1,I1,r,z,q⟩=>⟨by rw [← r.length];exact z,?_⟩)
 have hf:H1 s1.heap.objs.size=none:=I1.hok.fresh (Nat.le_refl _)
 refine ⟨.ref s1.heap.objs.size,upd H1 s1.heap.objs.size (.tup xs),I1.laid (t':=s1.toks) (fun b u e=>Heap.get?_push_of_some _ e) (Nat.le_refl _) ?_,rfl,q _ hf⟩
 exact ⟨z,us,r,⟨_,Heap.get?_push_size _ rfl,rfl,_,rfl⟩⟩
theorem q1q (h:PA X es t):PE X (.List es pos) (tLst t):=by
 intro pins s σ H Q I hq
 refine wpAny_List_spliced (thn (h pos pins s σ H _ I hq) fun us s1 ⟨xs,H1,I1,r,z,q⟩=>⟨by rw [← r.length];exact z,?_⟩)
 have hf:H1 s1.heap.objs.size=none:=I1.hok.fresh (Nat.le_refl _)
 refine ⟨.ref s1.heap.objs.size,upd H1 s1.heap.objs.size (.lst xs),I1.laid (t':=s1.toks) (fun b u e=>Heap.get?_push_of_some _ e) (Nat.le_refl _) ?_,rfl,q _ hf⟩
 exact ⟨z,us,0,r,Heap.get?_push_size _ rfl⟩
end
abbrev Sp:=List V→Hp→VK→XK→Prop
abbrev CXT:=List Env→Hp→Shared→XK→Value→Shared→Prop
structure Env0 (P:Program) (w:World) (K:W.Frag) (mg:Str→Option Value) (base:Heap) (A:Around) (outer:List Env) (s:Shared) (H:Hp):Prop where
 frames:A.frames=some outer
 mod:Mod K mg base
 bs:∀ b o,base.get? b=some o→s.heap.get? b=some o∧H b=none
 bsz:base.objs.size≤s.heap.objs.size
 funs:s.heap.FunFrames base outer
 frf:∀ b∈frs outer,H b=none
 hok:HOk P w H s.heap
 bare:AllBare s.gens
def CE (outer:List Env) (P:Program) (w:World) (H:Hp) (s:Shared) (Q:VK) (u:Value) (s':Shared):Prop:=
 ∃ v H',s'.os=s.os∧AllBare s'.gens∧Un (frs outer) [] H H' s.heap s'.heap∧HOk P w H' s'.heap∧RelV v u∧Q v H'
def CR (CX:CXT) (outer:List Env) (P:Program) (w:World) (H:Hp) (s:Shared) (Q:VK) (E:XK) (r:Result) (s':Shared):Prop:=
 match r with
 | .ok (.ret u)=>CE outer P w H s Q u s'
 | .ok _=>False
 | .error e=>CX outer H s E e s'
structure FnOk (P:Program) (w:World) (K:W.Frag) (mg:Str→Option Value) (base:Heap) (CX:CXT) (k:Nat) (f:Addr) (fd:FuncData) (ps:List Str) (sp:Sp):Prop where
 len:∀ vs H Q E,sp vs H Q E→vs.length=ps.length
 run:∀ (A:Around) (outer:List Env) (s:Shared) (H:Hp) (args:Args) (us:List Value) (vs:List V) (Q:VK) (E:XK),Room k A→Env0 P w K mg base A outer s H→BindsTo s fd args (ps.zip us)→Vals vs us→sp vs H Q E→
  codeAny (model P w) A (.call (.ref f) args) (CR CX outer P w H s Q E) s
theorem Env0.make {P:Program} {w:World} {K:W.Frag} {mg:Str→Option Value} {base:Heap} {A:Around} {outer:List Env} {s:Shared} {H:Hp} (e:Env0 P w K mg base A outer s H) (C:Addr) (us:List Value) (kw:List (Str × Value)) :
  Env0 P w K mg base (A.under (.builtin "type.__call__" ⟨.ref C::us,kw⟩)) outer s H:=⟨by first | exact e.frames | (simpa [Around.under,Code.envs,Code.isFrame,pushEnvs] using e.frames),e.mod,e.bs,e.bsz,e.funs,e.frf,e.hok,e.bare⟩
section
variable {X:Cx} {pins:List (Addr × Obj)} {σ:St} {H:Hp} {s s':Shared}
theorem Inv.env0 (I:Inv X pins σ H s):Env0 X.prog X.w X.K X.mg X.base X.A X.stack s H:=
 ⟨I.ok.frames,I.ok.mod,I.bs,Nat.le_trans I.ok.bsz I.sz,I.stack,I.stkFree,I.hok,I.bare⟩
theorem Inv.after {Q:VK} {u:Value} (I:Inv X pins σ H s) (h:CE X.stack X.prog X.w H s Q u s'):EP X pins σ Q u s':=by
 obtain ⟨v,H',os,bare,un,hok,r,q⟩:=h
 obtain ⟨hh,g,d,t,os'⟩:=s'
 obtain rfl:os'=s.os:=os
 exact ⟨v,H',I.call (h':=hh) (g':=g) (d':=d) (t':=t) (ch:=[]) un hok bare (fun b z=>absurd z (by simp)),r,q⟩
end
def tCall (sp:Sp) (dvs:List V) (E:XK) (t:TA):TE:=fun σ H Q=>t σ H fun vs H1=>sp (vs++dvs) H1 Q E
def tMake (C:Addr) (sp:Sp) (dvs:List V) (E:XK) (t:TA):TE:=fun σ H Q=>t σ H fun vs H1=>∀ x dx,H1 x=none→H1 dx=none→dx≠x→
 sp (.ref x::(vs++dvs)) (upd (upd H1 dx (.own x)) x (.ins C dx [])) (fun v H2=>v=.non∧Q (.ref x) H2) E
def Binds (K:W.Frag) (fd:FuncData) (ps:List Str) (ds:List Value):Prop:=
 ∀ (s:Shared) (us:List Value),K.In s.heap→(us++ds).length=ps.length→BindsTo s fd ⟨us,[]⟩ (ps.zip (us++ds))
theorem Binds.all {K:W.Frag} {fd:FuncData} {ps:List Str} (h:∀ us:List Value,us.length=ps.length→bindArgs fd ⟨us,[]⟩=pure (ps.zip us)):Binds K fd ps []:=fun s us _ hl=>by
 rw [List.append_nil] at hl ⊢
 exact .of_eq (h us hl)
def q65 (CX:CXT) (X:Cx) (E:XK):Prop:=∀ (pins:List (Addr × Obj)) (σ:St) (H:Hp) (s:Shared) (e:Value) (s':Shared),Inv X pins σ H s→CX X.stack H s E e s'→X.xe e s'
section
variable {X:Cx} {CX:CXT} {k:Nat} {f C:Addr} {fd:FuncData} {ps:List Str} {sp:Sp} {dvs:List V} {ds:List Value} {E:XK} {x m:Str} {p pos apos:Pos} {e o:Expr} {es:List Expr} {ta:TE} {t:TA}
theorem run_fn {pins:List (Addr × Obj)} {σ:St} {H:Hp} {s:Shared} {Q:VK} {us:List Value} {vs:List V} (F:FnOk X.prog X.w X.K X.mg X.base CX k f fd ps sp) (hr:Room k X.A) (hb:Binds X.K fd ps ds) (hd:Vals dvs ds) (hx:q65 CX X E)
  (I:Inv X pins σ H s) (r:Vals vs us) (h:sp (vs++dvs) H Q E):wpAny (model X.prog X.w) X.A (call (.ref f) us) (EP X pins σ Q) X.xe s:=by
 have r2:Vals (vs++dvs) (us++ds):=r.append hd
 have hl:(us++ds).length=ps.length:=by rw [← r2.length];exact F.len _ _ _ _ h
 refine wpAny_call (codeAny_mono (F.run X.A X.stack s H ⟨us,[]⟩ (us++ds) (vs++dvs) Q E hr I.env0 (hb s us I.kIn hl) r2 h) fun r s' hq=>?_)
 cases r with
 | error e=>exact hx pins σ H s e s' I hq
 | ok fl=>
  cases fl with
  | ret u=>exact I.after hq
  | next=>exact False.elim hq
  | brk=>exact False.elim hq
  | cont=>exact False.elim hq
theorem q0h (F:FnOk X.prog X.w X.K X.mg X.base CX k f fd ps sp) (hr:Room k X.A) (hg:Gl X x) (hm:X.mg x=some (.ref f)) (hk:W.keepIn X.K (.ref f)=true) (hb:Binds X.K fd ps ds) (hd:Vals dvs ds) (hx:q65 CX X E)
  (ha:PA X (e::es) t) (hdb:(x == ("__debug__" : Str))=false:=by decide) (he:starEach (e::es) X.env=(false,eval e X.env)::starEach es X.env:=by rfl) (hpl:(backTo pos (starEach es X.env)).any (·.1)=false:=by rfl) :
  PE X (.Call (.Name x p) (e::es) [] pos) (tCall sp dvs E t):=by
 intro pins s σ H Q I h
 refine wpAny_Call_Name_kw (q4t I hg hm ?_ hdb)
 refine W.callWith_K (h₀:=X.base) I.ok.mod.kin hk (thn (ha pos pins s σ H _ I h) fun us s1 zz42=>q3t zz42 fun vs H1 I1 r q=>⟨I1.kIn,?_⟩) he hpl
 exact run_fn F hr hb hd hx I1 r q
structure Mk (K:W.Frag) (C f:Addr):Prop where
 makes:W.makesIn K C=true
 init:W.findIn K (.ref C) "__init__" = some (some (.ref f))
 fn:W.isFn K (.ref f)=true
 kp:W.keepIn K (.ref C)=true
theorem run_make {pins:List (Addr × Obj)} {σ:St} {H:Hp} {s:Shared} {Q:VK} {us:List Value} {vs:List V} (M:Mk X.K C f) (F:FnOk X.prog X.w X.K X.mg X.base CX k f fd ps sp) (hr:Room (k+1) X.A) (hb:Binds X.K fd ps ds) (hd:Vals dvs ds)
  (hx:q65 CX X E) (I:Inv X pins σ H s) (r:Vals vs us)
  (h:∀ x dx,H x=none→H dx=none→dx≠x→sp (.ref x::(vs++dvs)) (upd (upd H dx (.own x)) x (.ins C dx [])) (fun v H2=>v=.non∧Q (.ref x) H2) E) :
  wpAny (model X.prog X.w) X.A (call (.ref C) us) (EP X pins σ Q) X.xe s:=by
 have hq:=h (s.heap.objs.size+1) s.heap.objs.size (I.hok.fresh (Nat.le_succ _)) (I.hok.fresh (Nat.le_refl _)) (Nat.ne_of_lt (Nat.lt_succ_self _))
 have I2:=Inv.made (C:=C) I
 have r2:Vals (V.ref (s.heap.objs.size+1)::(vs++dvs)) (Value.ref (s.heap.objs.size+1)::(us++ds)):=.cons rfl (r.append hd)
 have hl:(Value.ref (s.heap.objs.size+1)::us++ds).length=ps.length:=by
  have e:=r2.length
  rw [F.len _ _ _ _ hq] at e
  exact e.symm
 refine wpAny_call (make_map (f:=f) I.kIn M.makes M.init (beq_iff_eq.mp M.fn) (codeAny_mono (F.run _ X.stack _ _ ⟨Value.ref (s.heap.objs.size+1)::us,[]⟩ (Value.ref (s.heap.objs.size+1)::(us++ds)) _ _ E (hr.make C us [])
  (I2.env0.make C us []) (hb _ (Value.ref (s.heap.objs.size+1)::us) I2.kIn hl) r2 hq) fun r s' hq'=>?_))
 cases r with
 | error e=>exact hx pins σ _ _ e s' I2 hq'
 | ok fl=>
  cases fl with
  | ret u=>
   obtain ⟨v,H',I3,rv,ev,q3⟩:=I2.after hq'
   subst ev
   exact ⟨rv,⟨V.ref (s.heap.objs.size+1),H',I3,rfl,q3⟩⟩
  | next=>exact False.elim hq'
  | brk=>exact False.elim hq'
  | cont=>exact False.elim hq'
theorem pe_make (M:Mk X.K C f) (F:FnOk X.prog X.w X.K X.mg X.base CX k f fd ps sp) (hr:Room (k+1) X.A) (hg:Gl X x) (hm:X.mg x=some (.ref C)) (hb:Binds X.K fd ps ds) (hd:Vals dvs ds) (hx:q65 CX X E)
  (ha:PA X (e::es) t) (hdb:(x == ("__debug__" : Str))=false:=by decide) (he:starEach (e::es) X.env=(false,eval e X.env)::starEach es X.env:=by rfl) (hpl:(backTo pos (starEach es X.env)).any (·.1)=false:=by rfl) :
  PE X (.Call (.Name x p) (e::es) [] pos) (tMake C sp dvs E t):=by
 intro pins s σ H Q I h
 refine wpAny_Call_Name_kw (q4t I hg hm ?_ hdb)
 refine W.callWith_K (h₀:=X.base) I.ok.mod.kin M.kp (thn (ha pos pins s σ H _ I h) fun us s1 zz44=>q3t zz44 fun vs H1 I1 r q=>⟨I1.kIn,?_⟩) he hpl
 exact run_make M F hr hb hd hx I1 r q
end
section
variable {X:Cx} {CX:CXT} {k:Nat} {f C:Addr} {fd:FuncData} {ps ks:List Str} {sp:Sp} {E:XK} {x m:Str} {p pos apos kpos:Pos} {e o:Expr} {es:List Expr} {kws:List Keyword} {te ta:TE} {t tk:TA} {nm:Option Str}
variable {g:List Value→List Value→List Value} {gV:List V→List V→List V}
end
structure FnScope (N P:List Str) (sc:Scope):Prop where
 kind:sc.kind=.function
 co:sc.isCoroutine=false
 gen:sc.isGenerator=false
 nd:N.Nodup
 pre:N.take P.length=P
 par:∀ x∈P,sc.names.lookup x=some .local∨sc.names.lookup x=some .cell
 nofree:∀ y∈sc.names,y.2≠.free
theorem q7w {kindOf:Str→Option NameKind} {x:Str}:∀ {binds:List (Str × Value)} {m:Str→Option Value},(∀ v,(x,v) ∉ binds)→bindL kindOf binds m x=m x
 | [],_,_=>rfl
 | (n,v)::r,m,h=>by
  unfold bindL
  rw [q7w fun w hw=>h w (List.mem_cons_of_mem _ hw)]
  split
  ·have:x≠n:=by rintro rfl;exact h v List.mem_cons_self
   simp [this]
  ·rfl
theorem q94 {kindOf:Str→Option NameKind} {x:Str}:∀ {binds:List (Str × Value)} {m:Str→Option Value},(∀ v,(x,v) ∉ binds)→bindC kindOf binds m x=m x
 | [],_,_=>rfl
 | (n,v)::r,m,h=>by
  unfold bindC
  rw [q94 fun w hw=>h w (List.mem_cons_of_mem _ hw)]
  split
  ·rfl
  ·have:x≠n:=by rintro rfl;exact h v List.mem_cons_self
   simp [this]
theorem q96 {kindOf:Str→Option NameKind} {x:Str} {v:Value}:∀ {P:List Str} {vs:List Value} {i:Nat} {m:Str→Option Value},P.Nodup→P[i]?=some x→vs[i]?=some v→kindOf x=some .local→
  bindL kindOf (P.zip vs) m x=some v
 | [],_,_,_,_,h,_,_=>by simp at h
 | _::_,[],_,_,_,_,h,_=>by simp at h
 | p::P,w::vs,0,m,nd,h1,h2,hk=>by
  simp at h1 h2;subst h1;subst h2
  show bindL kindOf ((p,w)::P.zip vs) m p=_
  unfold bindL
  rw [q7w fun v hv=>(List.nodup_cons.mp nd).1 (List.of_mem_zip hv).1,if_pos hk]
  simp
 | p::P,w::vs,i+1,m,nd,h1,h2,hk=>by
  show bindL kindOf ((p,w)::P.zip vs) m x=_
  unfold bindL
  exact q96 (i:=i) (List.nodup_cons.mp nd).2 (by simpa using h1) (by simpa using h2) hk
theorem q89 {kindOf:Str→Option NameKind} {x:Str} {v:Value}:∀ {P:List Str} {vs:List Value} {i:Nat} {m:Str→Option Value},P.Nodup→P[i]?=some x→vs[i]?=some v→kindOf x≠some .local→
  bindC kindOf (P.zip vs) m x=some v
 | [],_,_,_,_,h,_,_=>by simp at h
 | _::_,[],_,_,_,_,h,_=>by simp at h
 | p::P,w::vs,0,m,nd,h1,h2,hk=>by
  simp at h1 h2;subst h1;subst h2
  show bindC kindOf ((p,w)::P.zip vs) m p=_
  unfold bindC
  rw [q94 fun v hv=>(List.nodup_cons.mp nd).1 (List.of_mem_zip hv).1,if_neg hk]
  simp
 | p::P,w::vs,i+1,m,nd,h1,h2,hk=>by
  show bindC kindOf ((p,w)::P.zip vs) m x=_
  unfold bindC
  exact q89 (i:=i) (List.nodup_cons.mp nd).2 (by simpa using h1) (by simpa using h2) hk
def start (N:List Str) (vs:List V):St:=vs.map some++List.replicate (N.length - vs.length) none
def cxOf (CX:CXT) (P:Program) (w:World) (K:W.Frag) (mg:Str→Option Value) (base:Heap) (N:List Str) (qual:Str) (scope:Scope) (f:Addr) (cd:Value) (A:Around) (outer:List Env) (s:Shared) (H:Hp) (E:XK):Cx where
 prog:=P
 w:=w
 K:=K
 mg:=mg
 base:=base
 A:=A.deeper (envOfC qual scope s.heap.objs.size f cd)
 N:=N
 s₀:=s
 H₀:=H
 env:=envOfC qual scope s.heap.objs.size f cd
 outer:=outer
 stack:=envOfC qual scope s.heap.objs.size f cd::outer
 ex:=[]
 calm:=true
 fn:=fun _=>true
 pn:=[]
 xe:=fun e s'=>wpAny (model P w) (A.deeper (envOfC qual scope s.heap.objs.size f cd)) (leaving (envOfC qual scope s.heap.objs.size f cd) e) (fun _ s''=>CX outer H s E e s'') (fun e' s''=>CX outer H s E e' s'') s'
theorem z0q {sc:Scope} {n:Nat} {x:Str} (h:sc.names.lookup x=some .cell):∃ c,(cellsFrom n sc.names []).lookup x=some c:=by
 have q:=PySem.W.cellsFrom_some sc.names n [] (.inl h)
 exact Option.isSome_iff_exists.mp q
theorem inv_start {CX:CXT} {P:Program} {w:World} {K:W.Frag} {mg:Str→Option Value} {base:Heap} {N ps:List Str} {qual:Str} {scope:Scope} {f:Addr} {cd:Value} {A:Around} {outer:List Env} {s s1:Shared} {H:Hp} {E:XK} {us:List Value} {vs:List V}
  (S:FnScope N ps scope) (hd:A.handled=none) (e0:Env0 P w K mg base A outer s H) (hl:vs.length=ps.length) (r:Vals vs us)
  (x:InCallC s s.heap.objs.size (bindL (envOfC qual scope s.heap.objs.size f cd).kindOf (ps.zip us) fun _=>none) (cellsFrom (s.heap.objs.size+1) scope.names []) (bindC (envOfC qual scope s.heap.objs.size f cd).kindOf (ps.zip us) fun _=>none) s1) :
  Inv (cxOf CX P w K mg base N qual scope f cd A outer s H E) [] (start N vs) H s1:=by
 have hpl:ps.length≤N.length:=by have:=congrArg List.length S.pre;rw [List.length_take] at this;omega
 obtain ⟨h1,tk,rfl,hk⟩:=x.done
 have noA:∀ b:Addr,b ∉ (cxOf CX P w K mg base N qual scope f cd A outer s H E).ex:=fun b z=>absurd (show b∈([]:List Addr) from z) (by simp)
 refine ⟨⟨e0.mod,S.kind,rfl,rfl,Nat.le_refl _,fun y z c h1 h2=>?_,fun y hy=>?_,fun y c _ h=>?_,fun _=>hd,Around.frames_deeper e0.frames,.inr ⟨rfl,rfl⟩,fun b z=>absurd z (noA b),e0.bs,e0.bsz,fun b _ _=>noA b,fun b z=>absurd z (noA b),e0.funs,e0.frf⟩,
  rfl,e0.bare,Un.kept hk,⟨_,x.toInCall.ns,fun i y v h1 h2 h3=>?_⟩,fun y c h=>⟨_,x.cell y c h⟩,e0.hok.fresh (Nat.le_refl _),fun y c h=>?_,fun p hp=>absurd (show p∈([]:List (Addr × Obj)) from hp) (by simp),e0.hok.kept hk,?_⟩
 ·exact name_of_addr x.apart (PySem.mem_of_lookup h1) (PySem.mem_of_lookup h2)
 ·have hy:scope.names.lookup y=some .cell∨scope.names.lookup y=some .free:=hy
  rcases hy with hy | hy
  ·exact z0q hy
  ·exact absurd rfl (S.nofree _ (PySem.mem_of_lookup hy))
 ·exact Nat.le_of_lt (x.above y c (PySem.mem_of_lookup h))
 ·have hi:i < vs.length:=by
   unfold start at h2
   by_cases hi:i < vs.length
   ·exact hi
   ·rw [List.getElem?_append_right (by simpa using hi)] at h2
    rw [List.getElem?_replicate] at h2
    split at h2 <;> cases h2
  have ha:vs[i]?=some v:=by
   unfold start at h2
   rw [List.getElem?_append_left (by simpa using hi),List.getElem?_map] at h2
   cases e:vs[i]? with
   | none=>rw [e] at h2;cases h2
   | some a=>rw [e] at h2;cases h2;rfl
  obtain ⟨u,hu,rv⟩:=r.get ha
  have hp:ps[i]?=some y:=by
   rw [← S.pre,List.getElem?_take_of_lt (by omega)];exact h1
  have ndP:ps.Nodup:=by rw [← S.pre];exact S.nd.sublist (List.take_sublist _ _)
  refine ⟨u,rv,?_⟩
  rcases S.par y (List.mem_of_getElem? hp) with k | k
  ·exact .inl ⟨k,q96 ndP hp hu k⟩
  ·obtain ⟨c,e⟩:=z0q (n:=s.heap.objs.size+1) k
   refine .inr ⟨.inl k,c,e,?_⟩
   have q:=x.cell y c e
   rw [q89 ndP hp hu (by show scope.names.lookup y≠_;rw [k];decide)] at q
   exact q
 ·exact e0.hok.fresh (Nat.le_of_lt (x.above y c (PySem.mem_of_lookup h)))
 ·unfold start
  show _=N.length
  rw [List.length_append,List.length_map,List.length_replicate]
  omega
theorem fn_of {CX:CXT} {P:Program} {w:World} {K:W.Frag} {mg:Str→Option Value} {base:Heap} {k:Nat} {f:Addr} {name qual:Str} {params:Arguments} {body:List Stmt} {scope:Scope} {dV kV doc pm cdv ct oc:Value} {an od:Option Addr}
  {osl:Array (Option Value)} {N ps:List Str} {sp:Sp} (lk:K.lookup f=some ⟨oc,od,.func (W.fnOf name qual params body scope dV kV doc pm an cdv ct),osl⟩) (hcd:W.codeIn K cdv qual=true) (S:FnScope N ps scope)
  (len:∀ vs H Q E,sp vs H Q E→vs.length=ps.length)
  (hbody:∀ (A:Around) (outer:List Env) (s:Shared) (H:Hp) (vs:List V) (Q:VK) (E:XK),Room k (A.deeper (envOfC qual scope s.heap.objs.size f cdv))→sp vs H Q E→
   ∃ t,PSs (cxOf CX P w K mg base N qual scope f cdv A outer s H E) body t∧t { nx:=fun _ H'=>Q .non H',rt:=Q } (start N vs) H) :
  FnOk P w K mg base CX (k+1) f (W.fnOf name qual params body scope dV kV doc pm an cdv ct) ps sp:=by
 refine ⟨len,fun A outer s H args us vs Q E hr e0 hb r hsp=>?_⟩
 have hl:=len _ _ _ _ hsp
 have KX:K.In s.heap:=e0.mod.kin.keeps fun b o e=>(e0.bs b o e).1
 have lim:s.heap.NoLimit:=e0.mod.nolimit.keeps fun b o e=>(e0.bs b o e).1
 have hkind:∀ y∈ps.zip us,scope.names.lookup y.1=some .local∨(scope.names.lookup y.1=some .cell∧((cellsFrom (s.heap.objs.size+1) scope.names []).lookup y.1).isSome=true):=fun ⟨n,v⟩ hy=>by
  rcases S.par n (List.of_mem_zip hy).1 with q | q
  ·exact .inl q
  ·exact .inr ⟨q,PySem.W.cellsFrom_some _ _ _ (.inl q)⟩
 refine codeAny_call_function hr.depth (KX _ _ lk) rfl S.co S.gen rfl (W.codeRec_of KX hcd) (hb _ _ _ _ ?_)
 refine wpAny_newFunctionEnv_cells S.kind hkind fun env he s1 x=>?_
 subst he
 refine ⟨lim.keeps x.toInCall.keep,codeAny_func ?_⟩
 obtain ⟨t,ht,hq⟩:=hbody A outer s H vs Q E (hr.deeper _) hsp
 have I:Inv (cxOf CX P w K mg base N qual scope f cdv A outer s H E) [] (start N vs) H s1:=inv_start S hr.hd e0 hl r x
 refine wpAny_mono (ht [] s1 (start N vs) H _ I hq) (fun fl s' hs=>?_) fun e s' hs=>hs
 have fin:∀ {σ':St} {H':Hp} {v:V} {u:Value},Inv (cxOf CX P w K mg base N qual scope f cdv A outer s H E) [] σ' H' s'→RelV v u→Q v H'→CE outer P w H s Q u s':=
  fun {σ' H' v u} J rv q=>⟨v,H',J.os,J.bare,J.base,J.hok,rv,q⟩
 cases fl with
 | ret u=>
  obtain ⟨v,σ',H',J,rv,q⟩:=hs
  exact fin J rv q
 | next=>
  obtain ⟨σ',H',J,q⟩:=hs
  exact fin (v:=V.non) (u:=Value.none) J rfl q
 | brk=>
  obtain ⟨_,_,_,q⟩:=hs
  exact False.elim q
 | cont=>
  obtain ⟨_,_,_,q⟩:=hs
  exact False.elim q
end L2
namespace L2
open PySem PySem.Spec PyProof.Rows
section
variable {X:Cx} {x:Str} {p pos:Pos} {e:Expr} {es:List Expr} {t:TA} {id T:String} {r:List V→Hp→VK→Prop}
def tCB (r:List V→Hp→VK→Prop) (t:TA):TE:=fun σ H Q=>t σ H fun vs H1=>r vs H1 Q
theorem q0b (hc:q2i X (.builtin id) r) (hg:Gl X x) (hm:X.mg x=none) (hv:bootBuiltins x=some (.builtin id)) (ha:PA X (e::es) t) (hn:x ≠ "__name__" := by decide) (hdb:(x == ("__debug__" : Str))=false:=by decide)
  (he:starEach (e::es) X.env=(false,eval e X.env)::starEach es X.env:=by rfl) (hpl:(backTo pos (starEach es X.env)).any (·.1)=false:=by rfl):PE X (.Call (.Name x p) (e::es) [] pos) (tCB r t):=by
 intro pins s σ H Q I h
 refine wpAny_Call_Name_kw (q2s I hg hm hv ?_ hn hdb)
 exact PyProof.Rows.callWith_builtin1 (thn (ha pos pins s σ H _ I h) fun us s1 zz49=>q3t zz49 fun vs H1 I1 r1 q1=>hc pins s1 σ H1 vs us Q I1 r1 q1) he hpl
theorem q1h (hc:q2i X (.type T) r) (hg:Gl X x) (hm:X.mg x=none) (hv:bootBuiltins x=some (.type T)) (ha:PA X (e::es) t) (hn:x ≠ "__name__" := by decide) (hdb:(x == ("__debug__" : Str))=false:=by decide)
  (he:starEach (e::es) X.env=(false,eval e X.env)::starEach es X.env:=by rfl) (hpl:(backTo pos (starEach es X.env)).any (·.1)=false:=by rfl):PE X (.Call (.Name x p) (e::es) [] pos) (tCB r t):=by
 intro pins s σ H Q I h
 refine wpAny_Call_Name_kw (q2s I hg hm hv ?_ hn hdb)
 exact PyProof.Rows.callWith_type1 (thn (ha pos pins s σ H _ I h) fun us s1 zz50=>q3t zz50 fun vs H1 I1 r1 q1=>hc pins s1 σ H1 vs us Q I1 r1 q1) he hpl
end
end L2
namespace HT
open PySem PyProof.Rows
section
open PySem.SeqAt
open PySem.AutoSeq1 (wpAny_loadPart')
open PySem.MeetsSeq PySem.MeetsSeq2 PySem.MeetsSeq3
end
section
variable {prog:Program} {w:World} {A:Around} {E:Value→Shared→Prop} {s:Shared}
theorem cat_tup {t b:Addr} {vs ws:List Value} {Q:Value→Shared→Prop} (ht:IsTup s.heap t vs.toArray) (hb:IsTup s.heap b ws.toArray) (hv:vs≠[])
  (h1:ws=[]→Q (.ref t) s) (h2:ws≠[]→Q (.ref s.heap.objs.size) { s with heap:=s.heap.push { cls:=.type "tuple",data:=.seq (vs++ws).toArray } })
  (hsz:vs.length+ws.length≤sizeLine):wpAny (model prog w) A (binaryOp .Add (.ref t) (.ref b)) Q E s:=by
 obtain ⟨⟨cls,dd,data,sl⟩,ho,hc,n,hd⟩:=id ht
 obtain ⟨⟨cls2,dd2,data2,sl2⟩,ho2,hc2,n2,hd2⟩:=id hb
 simp only at hc hd hc2 hd2
 subst hc hd hc2 hd2
 have e:vs.toArray++ws.toArray=(vs++ws).toArray:=by simp
 by_cases hw:ws=[]
 ·exact concat_meets ⟨_,ho,rfl⟩ ⟨_,ho2,rfl⟩ noFill_tuple_add seq_tuple_add PySem.F.slot_tuple_add PySem.F.entry_tuple_add (PySem.F.args_tuple_add_2 _ _)
   (tuple_addW1 t b vs.toArray ws.toArray n n2 dd dd2 sl sl2 (by simpa using hv) (by simp [hw])) ⟨ho,ho2,h1 hw⟩
 ·refine concat_meets ⟨_,ho,rfl⟩ ⟨_,ho2,rfl⟩ noFill_tuple_add seq_tuple_add PySem.F.slot_tuple_add PySem.F.entry_tuple_add (PySem.F.args_tuple_add_2 _ _)
   (tuple_addW2 t b vs.toArray ws.toArray n n2 dd dd2 sl sl2 (by simpa using hv) (by simpa using hw) (by rw [List.size_toArray,List.size_toArray];exact hsz)) ⟨ho,ho2,?_⟩
  rw [e]
  exact h2 hw
end
end HT
namespace L2
open PySem PySem.Spec PyProof.Rows
section
variable {X:Cx} {e:Expr} {te:TE} {lo hi:Option Expr} {tl th:TO} {pos p2:Pos}
def rCatT (K:W.Frag):R2:=fun x y H Q=>∃ a b xs ys,x=.ref a∧y=.ref b∧SqT K H a xs∧SqT K H b ys∧xs≠[]∧xs.length+ys.length≤sizeLine∧
 (ys=[]→Q (.ref a) H)∧(ys≠[]→∀ p,H p=none→Q (.ref p) (upd H p (.tup (xs++ys))))
theorem Vals.nil_iff {xs:List V} {us:List Value} (r:Vals xs us):us=[]↔xs=[]:=by
 cases r with
 | nil=>simp
 | cons _ _=>simp
theorem op_catT:OpR X (binaryOp .Add) (rCatT X.K):=by
 intro pins s σ H x y v u Q I rx ry h
 obtain ⟨a,b,xs,ys,rfl,rfl,ha,hb,hx,hz,q1,q2⟩:=h
 cases rx
 cases ry
 obtain ⟨its,r1,p1,_⟩:=I.tuple ha
 obtain ⟨its2,r2,p2,_⟩:=I.tuple hb
 refine HT.cat_tup p1 p2 (fun z=>hx (r1.nil_iff.mp z)) (fun z=>⟨.ref a,H,I,rfl,q1 (r2.nil_iff.mp z)⟩) (fun z=>?_) (by rw [← r1.length,← r2.length];exact hz)
 refine ⟨.ref s.heap.objs.size,_,I.laid (t':=s.toks) (o:=.tup (xs++ys)) (fun b ob q=>Heap.get?_push_of_some _ q) (Nat.le_refl _) ?_,rfl,q2 (fun w=>z (r2.nil_iff.mpr w)) _ (I.hok.fresh (Nat.le_refl _))⟩
 exact ⟨by rw [List.length_append];exact hz,_,r1.append r2,IsTup.new _ _⟩
end
end L2
namespace L2
open PySem PySem.Spec PyProof.Rows
def ixN (n:Nat) (i:Int):Option Nat:=if 0≤i then (if i < n then some i.toNat else none) else if -(n:Int)≤i then some (i+n).toNat else none
def atI {α:Type} (xs:List α) (i:Int):Option α:=(ixN xs.length i).bind fun j=>xs[j]?
theorem z00 {n:Nat} {i:Int} {j:Nat} (h:ixN n i=some j):seqIndex? i n=some j∧j < n∧-(n:Int)≤i∧i < n:=by
 unfold ixN at h
 by_cases h0:0≤i
 ·rw [if_pos h0] at h
  by_cases h1:i < n
  ·rw [if_pos h1] at h
   have e:i.toNat=j:=Option.some.inj h
   exact ⟨by rw [seqIndex_of h0 h1,e],by omega,by omega,h1⟩
  ·rw [if_neg h1] at h;cases h
 ·rw [if_neg h0] at h
  by_cases h1:-(n:Int)≤i
  ·rw [if_pos h1] at h
   have e:(i+n).toNat=j:=Option.some.inj h
   exact ⟨by rw [seqIndex_neg (by omega) h1,e],by omega,h1,by omega⟩
  ·rw [if_neg h1] at h;cases h
theorem atI_get {α:Type} {xs:List α} {i:Int} {v:α} (h:atI xs i=some v):∃ j,seqIndex? i xs.length=some j∧xs[j]?=some v∧j < xs.length∧-(xs.length:Int)≤i∧i < xs.length:=by
 unfold atI at h
 cases e:ixN xs.length i with
 | none=>rw [e] at h;cases h
 | some j=>
  rw [e] at h
  obtain ⟨h1,h2,h3,h4⟩:=z00 e
  exact ⟨j,h1,h,h2,h3,h4⟩
theorem q09 {α:Type} {xs:List α} {j:Nat} {v:α} (h:xs[j]?=some v):atI xs (j:Int)=some v:=by
 have hj:j < xs.length:=(List.getElem?_eq_some_iff.mp h).1
 have e:ixN xs.length (j:Int)=some j:=by
  unfold ixN
  rw [if_pos (by omega),if_pos (by omega)];simp
 unfold atI;rw [e];exact h
def PlainIx (b:Expr):Prop:=∀ o i,subscripted b false o i=operate [o,i] (getItem o i)
def IxR (X:Cx) (r:R2):Prop:=
 ∀ (value slice:Expr) (pins:List (Addr × Obj)) (s:Shared) (σ:St) (H:Hp) (x y:V) (v u:Value) (Q:VK),Inv X pins σ H s→RelV x v→RelV y u→r x y H Q→
  subscripted slice false v u=operate [v,u] (getItem v u)→wpAny (model X.prog X.w) X.A (subscriptTail value slice v u) (EP X pins σ Q) X.xe s
def MtR (X:Cx) (id:String) (r:V→List V→Hp→VK→Prop):Prop:=
 ∀ (pins:List (Addr × Obj)) (s:Shared) (σ:St) (H:Hp) (x:V) (xs:List V) (v:Value) (us:List Value) (Q:VK),Inv X pins σ H s→RelV x v→Vals xs us→r x xs H Q→
  wpAny (model X.prog X.w) X.A (call (.builtin id) (v::us)) (EP X pins σ Q) X.xe s
section
variable {X:Cx} {a b:Expr} {ta tb:TE} {pos:Pos}
theorem q0n {r:R2} (hr:IxR X r) (ha:PE X a ta) (hb:PE X b tb) (hs:PlainIx b):PE X (.Subscript a b pos) (tOp r ta tb):=by
 intro pins s σ H Q I h
 exact Subscript_ (binT ha hb I h fun v u s2 x y H2 I2 rx ry q=>hr a b pins s2 σ H2 x y v u Q I2 rx ry q (hs _ _))
inductive rIxLI (K:W.Frag) (x y:V) (H:Hp) (Q:VK):Prop
 | mk (p:Addr) (xs:List V) (i:Int) (v:V):(x=.ref p)→(y=.int i)→(SqL K H p xs)→(atI xs i=some v)→(Q v H)→rIxLI K x y H Q
def rIxL (K:W.Frag):R2:=fun x y H Q=>rIxLI K x y H Q
inductive rIxTI (K:W.Frag) (x y:V) (H:Hp) (Q:VK):Prop
 | mk (p:Addr) (xs:List V) (i:Int) (v:V):(x=.ref p)→(y=.int i)→(SqT K H p xs)→(atI xs i=some v)→(Q v H)→rIxTI K x y H Q
def rIxT (K:W.Frag):R2:=fun x y H Q=>rIxTI K x y H Q
theorem q0g:IxR X (rIxL X.K):=by
 intro value slice pins s σ H x y v u Q I rx ry h hs
 obtain ⟨p,xs,i,z,rfl,rfl,hq,he,q⟩:=h
 cases rx
 obtain ⟨t,rfl⟩:=ry
 obtain ⟨its,r,pl,hz⟩:=I.list hq
 obtain ⟨j,h1,h2,h3,h4,h5⟩:=atI_get he
 obtain ⟨w,ew,rw'⟩:=r.get h2
 have hl:=r.length
 have hn:=z1u
 have fin:EP X pins σ Q w s:=⟨z,H,I,rw',q⟩
 by_cases h0:0≤i
 ·have hj:i.toNat=j:=by
   rw [seqIndex_of h0 h5] at h1
   exact Option.some.inj h1
  exact item_listR pl.isList h0 (by omega) (by rw [hj];simpa using ew) fin hs
 ·have hj:(i+(its.toArray.size:Int)).toNat=j:=by
   rw [seqIndex_neg (by omega) h4] at h1
   rw [List.size_toArray,← hl]
   exact Option.some.inj h1
  exact subscriptTail_builtinR (x:=w) pl.isList.typeIs slot_list_getitem.lookup
   (wpAny_getItem_list_neg (Q:=fun r s'=>r=w∧EP X pins σ Q r s') pl.isList (by omega) (by rw [List.size_toArray] <;> omega) (by omega) (by rw [hj];simpa using ew) ⟨rfl,fin⟩) hs
theorem q18:IxR X (rIxT X.K):=by
 intro value slice pins s σ H x y v u Q I rx ry h hs
 obtain ⟨p,xs,i,z,rfl,rfl,hq,he,q⟩:=h
 cases rx
 obtain ⟨t,rfl⟩:=ry
 obtain ⟨its,r,pl,hz⟩:=I.tuple hq
 obtain ⟨j,h1,h2,h3,h4,h5⟩:=atI_get he
 obtain ⟨w,ew,rw'⟩:=r.get h2
 have hl:=r.length
 have hn:=z1u
 have fin:EP X pins σ Q w s:=⟨z,H,I,rw',q⟩
 exact subscriptTail_builtinR (x:=w) pl.typeIs slot_tuple_getitem.lookup
  (getItem_tuple (j:=j) (Q:=fun r s'=>r=w∧EP X pins σ Q r s') pl (by omega) (by omega) (by rw [List.size_toArray,← hl];exact h1) (by simpa using ew) ⟨rfl,fin⟩) hs
theorem mapSeq_set (its:List Value) (n j:Nat) (u:Value):Obj.mapSeq (·.setIfInBounds j u) { cls:=.type "list",data:=.seq its.toArray n }={ cls:=.type "list",data:=.seq (its.set j u).toArray n }:=by
 simp [Obj.mapSeq]
theorem Inv.lst {pins:List (Addr × Obj)} {σ:St} {H:Hp} {s:Shared} {p:Addr} {xs:List V} (I:Inv X pins σ H s) (h:H p=some (.lst xs)) :
  ∃ (its:List Value) (n:Nat),Vals xs its∧s.heap.get? p=some { cls:=.type "list",data:=.seq its.toArray n }∧xs.length≤sizeLine:=by
 obtain ⟨z,its,n,r,e⟩:=I.hok p _ h
 exact ⟨its,n,r,e,z⟩
theorem Inv.lstUpd {pins:List (Addr × Obj)} {σ:St} {H:Hp} {s:Shared} {p:Addr} {xs ys:List V} {its its':List Value} {n n':Nat} {f:Obj→Obj} (I:Inv X pins σ H s) (h:H p=some (.lst xs))
  (ho:s.heap.get? p=some { cls:=.type "list",data:=.seq its.toArray n }) (hf:f { cls:=.type "list",data:=.seq its.toArray n }={ cls:=.type "list",data:=.seq its'.toArray n' }) (r:Vals ys its') (hz:ys.length≤sizeLine) (t:Nat) :
  Inv X pins σ (upd H p (.lst ys)) { s with heap:=s.heap.update p f,toks:=t }:=by
 have e:(s.heap.update p f).get? p=some { cls:=.type "list",data:=.seq its'.toArray n' }:=by
  rw [Heap.get?_update_self f ho (by rw [hf] <;> rfl),hf]
 refine I.write (x:=p) (e:=p) (by rw [h];trivial) (.inl rfl) (fun b u hb q=>(Heap.get?_update_other _ _ (Ne.symm hb)).trans q) ⟨_,e⟩ ?_
 exact ⟨hz,its',n',r,e⟩
def rSetL:V→V→V→Hp→(Hp→Prop)→Prop:=fun o i v H Q=>∃ p xs k j,o=.ref p∧i=.int k∧H p=some (.lst xs)∧ixN xs.length k=some j∧Q (upd H p (.lst (xs.set j v)))
theorem q4a:PSet X rSetL:=by
 intro pins s σ H o i v ov iv u Q I ro ri rv h
 obtain ⟨p,xs,k,j,rfl,rfl,hp,hj,q⟩:=h
 cases ro
 obtain ⟨t,rfl⟩:=ri
 obtain ⟨its,n,r,ho,hz⟩:=I.lst hp
 obtain ⟨h1,h2,h3,h4⟩:=z00 hj
 have hl:=r.length
 have hn:=z1u
 have I':Inv X pins σ (upd H p (.lst (xs.set j v))) { s with heap:=s.heap.update p (Obj.mapSeq (·.setIfInBounds j u)) }:=
  I.lstUpd hp ho (mapSeq_set its n j u) (r.set rv j) (by rw [List.length_set];exact hz) s.toks
 by_cases h0:0≤k
 ·have hk:k.toNat=j:=by
   rw [seqIndex_of h0 h4] at h1
   exact Option.some.inj h1
  exact W.ki_setAt ho h0 (by omega) (by rw [List.size_toArray,← hl];exact h4) (by rw [hk];exact ⟨_,I',q⟩)
 ·have hk:(k+(its.toArray.size:Int)).toNat=j:=by
   rw [seqIndex_neg (by omega) h3] at h1
   rw [List.size_toArray,← hl]
   exact Option.some.inj h1
  exact W.ki_setBack ho (by omega) (by rw [List.size_toArray,← hl];exact h3) (by omega) (by rw [hk];exact ⟨_,I',q⟩)
def q7d:V→Bool
 | .non=>true
 | .bl _=>true
 | .int _=>true
 | .str _=>true
 | _=>false
def eqV:V→V→Bool
 | .non,.non=>true
 | .bl a,.bl b=>a == b
 | .bl a,.int b=>(if a then 1 else 0) == b
 | .int a,.bl b=>a == (if b then 1 else 0)
 | .int a,.int b=>a == b
 | .str a,.str b=>a == b
 | _,_=>false
theorem eqAt_V {A:Around} {s:Shared} {y x:V} {u v:Value} (ry:RelV y u) (rx:RelV x v) (fy:q7d y=true) (fx:q7d x=true):SeqAt.EqAt A s u v (eqV y x):=by
 cases y with
 | non=>
  cases ry
  cases x with
  | non=>cases rx;exact SeqAt.EqAt.same _
  | bl b=>cases rx;exact SeqAt.EqAt.none_bool b
  | int b=>obtain ⟨t,rfl⟩:=rx;exact SeqAt.EqAt.none_int b t
  | str b=>obtain ⟨t,rfl⟩:=rx;exact SeqAt.EqAt.none_str b t
  | _=>exact absurd (show false=true from fx) Bool.false_ne_true
 | bl a=>
  cases ry
  cases x with
  | non=>cases rx;exact SeqAt.EqAt.bool_none a
  | bl b=>cases rx;exact SeqAt.EqAt.bool_bool a b
  | int b=>obtain ⟨t,rfl⟩:=rx;exact SeqAt.EqAt.bool_int a b t
  | str b=>obtain ⟨t,rfl⟩:=rx;exact SeqAt.EqAt.bool_str a b t
  | _=>exact absurd (show false=true from fx) Bool.false_ne_true
 | int a=>
  obtain ⟨t',rfl⟩:=ry
  cases x with
  | non=>cases rx;exact SeqAt.EqAt.int_none a t'
  | bl b=>cases rx;exact SeqAt.EqAt.int_bool a t' b
  | int b=>obtain ⟨t,rfl⟩:=rx;exact SeqAt.EqAt.int_int a t' b t
  | str b=>obtain ⟨t,rfl⟩:=rx;exact SeqAt.EqAt.int_str a t' b t
  | _=>exact absurd (show false=true from fx) Bool.false_ne_true
 | str a=>
  obtain ⟨t',rfl⟩:=ry
  cases x with
  | non=>cases rx;exact SeqAt.EqAt.str_none a t'
  | bl b=>cases rx;exact SeqAt.EqAt.str_bool a t' b
  | int b=>obtain ⟨t,rfl⟩:=rx;exact SeqAt.EqAt.str_int a t' b t
  | str b=>obtain ⟨t,rfl⟩:=rx;exact SeqAt.EqAt.str_str a t' b t
  | _=>exact absurd (show false=true from fx) Bool.false_ne_true
 | _=>exact absurd (show false=true from fy) Bool.false_ne_true
def eqU (x:V) (u:Value):Bool:=match u with
 | .none=>eqV .non x
 | .bool b=>eqV (.bl b) x
 | .int i _=>eqV (.int i) x
 | .str z _=>eqV (.str z) x
 | _=>false
theorem eqU_of {x y:V} {u:Value} (r:RelV y u) (f:q7d y=true):eqU x u=eqV y x:=by
 cases y with
 | non=>cases r;rfl
 | bl b=>cases r;rfl
 | int i=>obtain ⟨t,rfl⟩:=r;rfl
 | str z=>obtain ⟨t,rfl⟩:=r;rfl
 | _=>exact absurd (show false=true from f) Bool.false_ne_true
theorem z0i {x:V}:∀ {xs:List V} {us:List Value},Vals xs us→xs.all q7d=true→us.any (eqU x)=xs.any fun y=>eqV y x
 | _,_,.nil,_=>rfl
 | y::xs,u::us,.cons r t,f=>by
  rw [List.all_cons,Bool.and_eq_true] at f
  rw [List.any_cons,List.any_cons,eqU_of r f.1,z0i t f.2]
theorem q7s {A:Around} {s:Shared} {x:V} {v:Value} (rx:RelV x v) (fx:q7d x=true):∀ {xs:List V} {us:List Value},Vals xs us→xs.all q7d=true→∀ u∈us,SeqAt.EqAt A s u v (eqU x u)
 | _,_,.nil,_=>fun u hu=>by cases hu
 | y::xs,u::us,.cons r t,f=>fun u' hu=>by
  rw [List.all_cons,Bool.and_eq_true] at f
  rcases List.mem_cons.mp hu with rfl | hu
  ·rw [eqU_of r f.1];exact eqAt_V r rx f.1 fx
  ·exact q7s rx fx t f.2 u' hu
def inV (x:V) (xs:List V):Bool:=xs.any fun y=>eqV y x
inductive rInI (K:W.Frag) (neg:Bool) (x y:V) (H:Hp) (Q:VK):Prop
 | mk (p:Addr) (xs:List V):(y=.ref p)→(SqL K H p xs∨SqT K H p xs)→(q7d x=true)→(xs.all q7d=true)→(Q (.bl (if neg then !inV x xs else inV x xs)) H)→rInI K neg x y H Q
def rIn (K:W.Frag) (neg:Bool):R2:=fun x y H Q=>rInI K neg x y H Q
theorem q5i:OpR X (compareOp .In) (rIn X.K false):=by
 intro pins s σ H x y v u Q I rx ry h
 obtain ⟨p,xs,rfl,hq,fx,fs,q⟩:=h
 cases ry
 rcases hq with hq | hq
 ·obtain ⟨its,r,pl,hz⟩:=I.list hq
  refine SeqAt.in_listAt (eqU x) pl.isList (fun w hw=>q7s rx fx r fs w (by simpa using hw)) ⟨.bl _,H,I,rfl,?_⟩
  rw [show its.toArray.any (eqU x)=its.any (eqU x) by simp,z0i r fs]
  exact q
 ·obtain ⟨its,r,pl,hz⟩:=I.tuple hq
  refine SeqAt.in_tupleAt (eqU x) pl (fun w hw=>q7s rx fx r fs w (by simpa using hw)) ⟨.bl _,H,I,rfl,?_⟩
  rw [show its.toArray.any (eqU x)=its.any (eqU x) by simp,z0i r fs]
  exact q
theorem q8a:q2i X (.builtin "len") (fun xs H Q=>∃ p ys,xs=[.ref p]∧(SqL X.K H p ys∨SqT X.K H p ys)∧Q (.int ys.length) H):=by
 intro pins s σ H xs us Q I r h
 obtain ⟨p,ys,rfl,hq,q⟩:=h
 obtain ⟨u,rfl,rx⟩:=vals1 r
 cases rx
 have hn:=z1u
 rcases hq with hq | hq
 ·obtain ⟨its,r',pl,hz⟩:=I.list hq
  have hlen:=r'.length
  exact Calls.call_len_list pl.isList (by simp only [List.size_toArray] <;> omega) ⟨.int ys.length,H,I.tok _,⟨s.toks+1,by rw [List.size_toArray,hlen]⟩,q⟩
 ·obtain ⟨its,r',pl,hz⟩:=I.tuple hq
  have hlen:=r'.length
  exact len_tuple pl (by simp only [List.size_toArray] <;> omega) ⟨.int ys.length,H,I.tok _,⟨s.toks+1,by rw [List.size_toArray,hlen]⟩,q⟩
theorem q97:q2i X (.type "list") (fun xs H Q=>∃ p ys,xs=[.ref p]∧(SqL X.K H p ys∨SqT X.K H p ys)∧∀ l,H l=none→Q (.ref l) (upd H l (.lst ys))):=by
 intro pins s σ H xs us Q I r h
 obtain ⟨p,ys,rfl,hq,q⟩:=h
 obtain ⟨u,rfl,rx⟩:=vals1 r
 cases rx
 have fin:∀ (its:List Value),Vals ys its→ys.length≤sizeLine→∀ (h':Heap) (c':Nat),(∀ b o',s.heap.get? b=some o'→h'.get? b=some o')→
   h'.get? s.heap.objs.size=some { cls:=.type "list",dict:=none,data:=.seq its.toArray c',slots:=#[] }→EP X pins σ Q (.ref s.heap.objs.size) { s with heap:=h' }:=fun its r' hz h' c' kp e=>
  ⟨.ref s.heap.objs.size,_,I.laid (t':=s.toks) kp (Nat.le_refl _) (show ObjOk X.prog X.w _ h' _ (.lst ys) from ⟨hz,its,c',r',e⟩),rfl,q _ (I.hok.fresh (Nat.le_refl _))⟩
 rcases hq with hq | hq
 ·obtain ⟨its,r',pl,hz⟩:=I.list hq
  have hlen:=r'.length
  obtain ⟨o,ho,hc,n,hd⟩:=pl.isList
  exact call_list_seq p (.inl rfl) ho hc hd (fun h' c' kp e=>fin its r' hz h' c' kp e) (by simp only [List.size_toArray] <;> omega)
 ·obtain ⟨its,r',pl,hz⟩:=I.tuple hq
  have hlen:=r'.length
  obtain ⟨o,ho,hc,n,hd⟩:=pl
  exact call_list_seq p (.inr rfl) ho hc hd (fun h' c' kp e=>fin its r' hz h' c' kp e) (by simp only [List.size_toArray] <;> omega)
def tyV (K:W.Frag) (T:String) (x:V) (H:Hp):Prop:=match x with
 | .str _=>T = "str"
 | .int _=>T = "int"
 | .ref p=>(T = "list" ∧ ∃ xs,SqL K H p xs)∨(T = "tuple" ∧ ∃ o,K.lookup p=some o∧o.cls=.type "tuple" ∧ o.dict=none)∨
   (T = "dict" ∧ ((∃ kvs,H p=some (.dK kvs))∨∃ kvs,H p=some (.dT kvs)))∨(T = "set" ∧ ∃ S n,H p=some (.set S n))
 | _=>False
theorem tyV_is {pins:List (Addr × Obj)} {σ:St} {H:Hp} {s:Shared} {T:String} {x:V} {v:Value} (I:Inv X pins σ H s) (r:RelV x v) (ty:tyV X.K T x H) :
  s.TypeIs v T∧∀ a,v=.ref a→∃ ob,s.heap.get? a=some ob∧ob.dict=none:=by
 cases x with
 | str z=>
  obtain ⟨t,rfl⟩:=r
  cases (show T = "str" from ty)
  exact ⟨typeIs_str s z t,fun _ e=>nomatch e⟩
 | int i=>
  obtain ⟨t,rfl⟩:=r
  cases (show T = "int" from ty)
  exact ⟨typeIs_int s i t,fun _ e=>nomatch e⟩
 | ref p=>
  cases r
  rcases ty with ⟨rfl,xs,hq⟩ | ⟨rfl,o,hk,hc,hd⟩ | ⟨rfl,hk⟩ | ⟨rfl,S,n,hk⟩
  ·obtain ⟨its,_,pl,_⟩:=I.list hq
   refine ⟨pl.isList.typeIs,fun a e=>?_⟩
   cases e
   obtain ⟨o,n,e,c,hd,_⟩:=pl
   exact ⟨o,e,hd⟩
  ·refine ⟨⟨o,I.kIn p o hk,hc⟩,fun a e=>?_⟩
   cases e
   exact ⟨o,I.kIn _ o hk,hd⟩
  ·have z:∃ o,s.heap.get? p=some o∧o.ExactDict:=by
    rcases hk with ⟨kvs,hk⟩ | ⟨kvs,hk⟩
    ·obtain ⟨_,_,_,_,o,_,_,e,ex,_⟩:=I.hok p _ hk
     exact ⟨o,e,ex⟩
    ·obtain ⟨_,_,_,_,o,_,_,e,ex,_⟩:=I.hok p _ hk
     exact ⟨o,e,ex⟩
   obtain ⟨o,e,ex⟩:=z
   refine ⟨⟨o,e,ex.1⟩,fun a e2=>?_⟩
   cases e2
   exact ⟨o,e,ex.2.1⟩
  ·obtain ⟨o,_,_,_,e,ex,_⟩:=I.hok p _ hk
   refine ⟨⟨o,e,ex.1⟩,fun a e2=>?_⟩
   cases e2
   exact ⟨o,e,ex.2.1⟩
 | _=>exact False.elim ty
def tBM0 (K:W.Frag) (T:String) (r:V→List V→Hp→VK→Prop) (to:TE):TE:=fun σ H Q=>to σ H fun x H1=>tyV K T x H1∧r x [] H1 Q
def tBM (K:W.Frag) (T:String) (r:V→List V→Hp→VK→Prop) (to:TE) (t:TA):TE:=fun σ H Q=>to σ H fun x H1=>tyV K T x H1∧t σ H1 fun xs H2=>r x xs H2 Q
variable {o e:Expr} {es:List Expr} {to:TE} {t:TA} {name:Str} {apos cpos:Pos} {T id:String} {r:V→List V→Hp→VK→Prop}
theorem pe_bm0 (pa:PlainAttrs T) (slot:Slot T name id) (hty:typeOf (.builtin id)=pure (.type "method_descriptor")) (hm:MtR X id r) (ho:PE X o to)
  (hbase:attributeBase o name X.env (eval o X.env)=eval o X.env:=by rfl) (hline:(apos.endLine == cpos.line)=true:=by rfl):PE X (.Call (.Attribute o name apos) [] [] cpos) (tBM0 X.K T r to):=by
 intro pins s σ H Q I h
 refine wpAny_Call_method0_late hbase hline (thn (ho pins s σ H _ I h) fun v s1 ⟨x,H1,I1,r1,ty,q1⟩=>?_)
 obtain ⟨h1,h2⟩:=tyV_is I1 r1 ty
 exact ⟨T,id,pa,slot,hty,h1,h2,Calls.callWith_builtin rfl (PySem.evalArgs_none (hm pins s1 σ H1 x [] v [] Q I1 r1 .nil q1))⟩
theorem q3n (pa:PlainAttrs T) (slot:Slot T name id) (hty:typeOf (.builtin id)=pure (.type "method_descriptor")) (hm:MtR X id r) (ho:PE X o to) (ha:PA X (e::es) t)
  (hbase:attributeBase o name X.env (eval o X.env)=eval o X.env:=by rfl)
  (hfew:((backTo cpos (starEach (e::es) X.env)).all (fun x=>!x.1) && (backToKw cpos (keywordEach [] X.env)).all (fun x=>x.1.isSome)
   && decide ((e::es).length+([]:List Keyword).length+(if ([]:List Keyword).isEmpty then 0 else 1) < 30))=true:=by rfl)
  (hline:(apos.endLine == cpos.line)=true:=by rfl) (hs:starEach (e::es) X.env=(false,eval e X.env)::starEach es X.env:=by rfl) (hplain:(backTo cpos (starEach es X.env)).any (·.1)=false:=by rfl) :
  PE X (.Call (.Attribute o name apos) (e::es) [] cpos) (tBM X.K T r to t):=by
 intro pins s σ H Q I h
 refine wpAny_Call_method_late hbase hfew hline rfl (thn (ho pins s σ H _ I h) fun v s1 ⟨x,H1,I1,r1,ty,q1⟩=>?_)
 obtain ⟨h1,h2⟩:=tyV_is I1 r1 ty
 refine ⟨T,id,pa,slot,hty,h1,h2,?_⟩
 have hA:=ha cpos pins s1 σ H1 _ I1 q1
 rw [hs] at hA ⊢
 refine Calls.callWith_builtin (by show (false || (backTo cpos (starEach es X.env)).any (·.1))=false;rw [hplain] <;> rfl) (Calls.evalArgs_plain ?_)
 exact thn hA fun us s2 zz53=>q3t zz53 fun vs H2 I2 r2 q2=>hm pins s2 σ H2 x vs v us Q I2 r1 r2 q2
end
end L2
namespace L2
open PySem PySem.Spec PyProof.Rows
def MtM (X:Cx) (id:String) (r:V→List V→Hp→VK→Prop):Prop:=
 ∀ (pins:List (Addr × Obj)) (s:Shared) (σ:St) (H:Hp) (x:V) (xs:List V) (v:Value) (us:List Value) (Q:VK),Inv X pins σ H s→RelV x v→Vals xs us→r x xs H Q→
  wpAny (model X.prog X.w) X.A (call (.builtin id) (v::us)) (EP X pins σ Q) X.xe s
theorem Vals.one:∀ {x:V} {us:List Value},Vals [x] us→∃ u,us=[u]∧RelV x u
 | _,_,.cons r .nil=>⟨_,rfl,r⟩
theorem Vals.two:∀ {x y:V} {us:List Value},Vals [x,y] us→∃ u v,us=[u,v]∧RelV x u∧RelV y v
 | _,_,_,.cons r (.cons q .nil)=>⟨_,_,rfl,r,q⟩
theorem Vals.zero:∀ {us:List Value},Vals [] us→us=[]
 | _,.nil=>rfl
theorem Vals.eraseIdx:∀ {xs:List V} {us:List Value} (i:Nat),Vals xs us→Vals (xs.eraseIdx i) (us.eraseIdx i)
 | _,_,_,.nil=>.nil
 | _,_,0,.cons _ t=>t
 | _,_,i+1,.cons r t=>.cons r (Vals.eraseIdx i t)
theorem Vals.reverse {xs:List V} {us:List Value} (h:Vals xs us):Vals xs.reverse us.reverse:=by
 induction h with
 | nil=>exact .nil
 | cons r t ih=>rw [List.reverse_cons,List.reverse_cons];exact Vals.append ih (.cons r .nil)
theorem q9b {α:Type}:∀ (l:List α) (i:Nat),(l.eraseIdx i).length≤l.length
 | [],_=>Nat.le_refl _
 | _::_,0=>Nat.le_succ _
 | _::r,i+1=>Nat.succ_le_succ (q9b r i)
section
variable {X:Cx} {pins:List (Addr × Obj)} {σ:St} {H:Hp} {s:Shared} {l b:Addr} {xs ys zs:List V}
theorem Inv.lset {its its':List Value} {n:Nat} {f:Array Value→Array Value} {t':Nat} (I:Inv X pins σ H s) (hH:H l=some (.lst xs))
  (e:s.heap.get? l=some { cls:=.type "list",data:=.seq its.toArray n }) (hf:f its.toArray=its'.toArray) (hv:Vals ys its') (hz:ys.length≤sizeLine) :
  Inv X pins σ (upd H l (.lst ys)) { s with heap:=s.heap.update l (Obj.mapSeq f),toks:=t' }:=by
 have q:=PySem.IsL.update e f
 rw [hf] at q
 refine I.write (x:=l) (e:=l) (by rw [hH];exact trivial) (.inl rfl) (fun b' u hb hu=>(Heap.get?_update_other s.heap (Obj.mapSeq f) (Ne.symm hb)).trans hu) ⟨_,q⟩ ?_
 exact ⟨hz,its',_,hv,q⟩
theorem Inv.lnew {its:List Value} {t':Nat} (I:Inv X pins σ H s) (hv:Vals ys its) (hz:ys.length≤sizeLine) :
  Inv X pins σ (upd H s.heap.objs.size (.lst ys)) { s with heap:=s.heap.push { cls:=.type "list",data:=.seq its.toArray },toks:=t' }:=
 I.laid (fun _ _ q=>Heap.get?_push_of_some _ q) (Nat.le_refl _) ⟨hz,its,0,hv,Heap.get?_push_size _ rfl⟩
theorem Inv.fresh (I:Inv X pins σ H s):H s.heap.objs.size=none:=I.hok.fresh (Nat.le_refl _)
theorem Inv.lstM (I:Inv X pins σ H s) (hH:H l=some (.lst xs)):xs.length≤sizeLine∧∃ (its:List Value) (n:Nat),Vals xs its∧xs.length=its.length∧s.heap.get? l=some { cls:=.type "list",data:=.seq its.toArray n }:=by
 obtain ⟨z,its,n,r,e⟩:=I.hok l _ hH
 exact ⟨z,its,n,r,r.length,e⟩
theorem z1e {n:Nat} (h:n≤sizeLine):Builtin.List.listTooLong n=false:=by
 unfold Builtin.List.listTooLong
 exact decide_eq_false (by omega)
end
section
variable {X:Cx}
inductive rAppendI (x:V) (vs:List V) (H:Hp) (Q:VK):Prop
 | mk (l:Addr) (xs:List V) (y:V):(x=.ref l)→(vs=[y])→(H l=some (.lst xs))→(xs.length < sizeLine)→(Q .non (upd H l (.lst (xs++[y]))))→rAppendI x vs H Q
def rAppend:V→List V→Hp→VK→Prop:=fun x vs H Q=>rAppendI x vs H Q
theorem q15:MtM X "list.append" rAppend:=by
 intro pins s σ H x vs v us Q I rx rv h
 obtain ⟨l,xs,y,rfl,rfl,hH,hz,q⟩:=h
 cases rx
 obtain ⟨u,rfl,ru⟩:=rv.one
 obtain ⟨z,its,n,r,hl,e⟩:=I.lstM hH
 refine call_meets F.slot_list_append ⟨_,e,rfl⟩ F.entry_list_append (F.args_list_append_2 _ _) (PySem.list_append l its.toArray n u (by rw [List.size_toArray];omega)) ⟨e,?_⟩
 refine ⟨.non,_,I.lset (its':=its++[u]) hH e (by simp) (r.append (.cons ru .nil)) ?_,rfl,q⟩
 rw [List.length_append,List.length_singleton]
 omega
def rExtend:V→List V→Hp→VK→Prop:=fun x vs H Q=>∃ l b xs zs,x=.ref l∧vs=[.ref b]∧H l=some (.lst xs)∧H b=some (.lst zs)∧xs.length+zs.length≤sizeLine∧Q .non (upd H l (.lst (xs++zs)))
theorem q8t:MtM X "list.extend" rExtend:=by
 intro pins s σ H x vs v us Q I rx rv h
 obtain ⟨l,b,xs,zs,rfl,rfl,hH,hB,hz,q⟩:=h
 cases rx
 obtain ⟨u,rfl,ru⟩:=rv.one
 cases ru
 obtain ⟨z,its,n,r,hl,e⟩:=I.lstM hH
 obtain ⟨z2,its2,n2,r2,hl2,e2⟩:=I.lstM hB
 have hsz:its.toArray.size+its2.toArray.size≤sizeLine:=by rw [List.size_toArray,List.size_toArray];omega
 have hlong:¬ (!its.toArray.isEmpty && Builtin.List.listTooLong (its.toArray.size+its2.toArray.size))=true:=by
  rw [z1e hsz,Bool.and_false]
  exact Bool.false_ne_true
 refine call_meets F.slot_list_extend ⟨_,e,rfl⟩ F.entry_list_extend (F.args_list_extend_2 _ _)
  (AutoSeq1.list_extend_list_list_0 l its.toArray n b its2.toArray n2 hlong (by rw [List.size_toArray];omega) (by omega)) ⟨e,e2,?_⟩
 refine ⟨.non,_,I.lset (its':=its++its2) hH e (by simp) (r.append r2) ?_,rfl,q⟩
 rw [List.length_append]
 omega
def rPopAt:V→List V→Hp→VK→Prop:=fun x vs H Q=>∃ l xs i k y,x=.ref l∧vs=[.int i]∧H l=some (.lst xs)∧-(2 ^ 63)≤i∧i < 2 ^ 63∧seqIndex? i xs.length=some k∧xs[k]?=some y∧Q y (upd H l (.lst (xs.eraseIdx k)))
theorem mt_popAt:MtM X "list.pop" rPopAt:=by
 intro pins s σ H x vs v us Q I rx rv h
 obtain ⟨l,xs,i,k,y,rfl,rfl,hH,h1,h2,hk,hy,q⟩:=h
 cases rx
 obtain ⟨u,rfl,ru⟩:=rv.one
 obtain ⟨t,rfl⟩:=ru
 obtain ⟨z,its,n,r,hl,e⟩:=I.lstM hH
 obtain ⟨w,hw,rw'⟩:=r.get hy
 refine call_meets F.slot_list_pop ⟨_,e,rfl⟩ F.entry_list_pop (F.args_list_pop_2 _ _)
  (MeetsSeq.list_pop_at l its.toArray n i t k w (fitsIndex_both h1 h2) (by rw [List.size_toArray,← hl];exact hk) (by rw [← Array.getElem?_toList];exact hw) (by rw [List.size_toArray];omega)) ⟨e,?_⟩
 refine ⟨y,_,I.lset (its':=its.eraseIdx k) hH e ?_ (r.eraseIdx k) ?_,rw',q⟩
 ·show its.toArray.eraseIdxIfInBounds k=(its.eraseIdx k).toArray
  rw [List.eraseIdxIfInBounds_toArray]
 ·have:=q9b xs k
  omega
def rReverse:V→List V→Hp→VK→Prop:=fun x vs H Q=>∃ l xs,x=.ref l∧vs=[]∧H l=some (.lst xs)∧Q .non (upd H l (.lst xs.reverse))
theorem mt_reverse:MtM X "list.reverse" rReverse:=by
 intro pins s σ H x vs v us Q I rx rv h
 obtain ⟨l,xs,rfl,rfl,hH,q⟩:=h
 cases rx
 have hus:=rv.zero
 subst hus
 obtain ⟨z,its,n,r,hl,e⟩:=I.lstM hH
 refine call_meets F.slot_list_reverse ⟨_,e,rfl⟩ F.entry_list_reverse (F.args_list_reverse_1 _) (AutoSeq1.list_reverse_list_0 l its.toArray n (by rw [List.size_toArray];omega)) ⟨e,?_⟩
 refine ⟨.non,_,I.lset (its':=its.reverse) hH e (by simp) r.reverse ?_,rfl,q⟩
 rw [List.length_reverse]
 omega
inductive rCatI (x y:V) (H:Hp) (Q:VK):Prop
 | mk (l b:Addr) (xs zs:List V):(x=.ref l)→(y=.ref b)→(H l=some (.lst xs))→(H b=some (.lst zs))→(xs.length+zs.length≤sizeLine)→(∀ p,H p=none→Q (.ref p) (upd H p (.lst (xs++zs))))→rCatI x y H Q
def rCat:R2:=fun x y H Q=>rCatI x y H Q
theorem op_cat:OpR X (binaryOp .Add) rCat:=by
 intro pins s σ H x y v u Q I rx ry h
 obtain ⟨l,b,xs,zs,rfl,rfl,hH,hB,hz,q⟩:=h
 cases rx
 cases ry
 obtain ⟨z,its,n,r,hl,e⟩:=I.lstM hH
 obtain ⟨z2,its2,n2,r2,hl2,e2⟩:=I.lstM hB
 refine PySem.P.add_list e e2 ?_ (by rw [List.size_toArray,List.size_toArray];omega)
 have ea:its.toArray++its2.toArray=(its++its2).toArray:=by simp
 rw [ea]
 exact ⟨.ref _,_,I.lnew (t':=s.toks) (r.append r2) (by rw [List.length_append];omega),rfl,q _ I.fresh⟩
end
section
variable {prog:Program} {w:World} {A:Around} {E:Value→Shared→Prop} {s:Shared}
end
section
variable {X:Cx}
end
end L2
namespace Att
open PySem PySem.W PySem.Calls PyProof.Rows
theorem q5u {P:Params} {h:Heap}:∀ (ns:List Int) (vs:List Value),WellAll P h vs (ns.map WData.int)→IntsAre vs ns:=by
 intro ns
 induction ns with
 | nil=>
  intro vs w
  rw [List.map_nil] at w
  cases w
  exact .nil
 | cons n ns ih=>
  intro vs w
  rw [List.map_cons] at w
  cases w with
  | cons a b=>
   cases a
   exact .cons _ _ (ih _ b)
theorem script_of {l:OpenLaw} {n:Nat} (hn:l.most=some n) {P:Params} {h:Heap} {args:List WData} {vals:List Value}
  (hpre:l.row.toRowW.claim.pre args=true) (hwl:WellAll P h vals args) :
  ∃ a vs ns,vals=[Value.ref a]∧args=[WData.list (ns.map WData.int)]∧h.get? a=some { cls:=.type "list",data:=.seq vs.toArray }∧IntsAre vs ns∧ns.length≤n:=by
 have hsh:WShape.hasAll [] args [.list .int]=true:=(pre_splitW hpre).1
 have hc:l.pre.holds [] { args:=args }=true:=(pre_splitW hpre).2
 obtain ⟨d,r,rfl,h1,h2⟩:=hasAllW_cons hsh
 obtain rfl:=hasAllW_nil h2
 obtain ⟨xs,rfl,h3⟩:=hasW_list h1
 obtain ⟨ns,rfl⟩:=items_int h3
 have hlen:ns.length≤n:=by
  unfold OpenLaw.pre at hc
  have h4:(WTm.not (.lt (.lit (.int (n:Int))) (.len (.arg 0)))).holds [] { args:=[.list (ns.map .int)] }=true:=by
   have h4:=(holds_andW hc).1
   rw [hn] at h4
   exact h4
  have h5:=condW_of h4 (w_not (w_lt w_lit (w_len_list (w_arg rfl))))
  rw [List.length_map] at h5
  refine Nat.le_of_not_lt fun q=>?_
  have q':(n:Int) < ((ns.length:Nat):Int):=by omega
  first
   | (rw [decide_eq_true q'] at h5;exact absurd h5 (by decide))
   | (simp at h5;omega)
 cases hwl with
 | cons w1 w2=>
  cases w2
  cases w1 with
  | list ho hall=>exact ⟨_,_,ns,rfl,rfl,ho,q5u ns _ hall,hlen⟩
theorem post_true (l:OpenLaw) (args:List WData):l.row.toRowW.claim.post args (.bool true) args=true:=
 postW_of (r:=l.row.toRowW) (X:=(true == true))
  (show WShape.has [] (.bool true) .bool=true by first | rfl | decide | simp [WShape.has,WShape.arms,WShape.armsAll])
  (show (WTm.eq .res (.lit (.bool true))).value [] { args:=args,res:=some (.bool true),after:=args }=some (.bool (true == true)) from w_eq_bool (w_res rfl) w_lit) rfl
theorem attach_call {l:OpenLaw} {n:Nat} {q:Program} {loose:List Str} {XP:(Str→Option Value)→Heap→Prop} {YP:World→Heap→Prop} {d:DefRec}
  (hn:l.most=some n) (hdf:d.params.defaults=[])
  (call:∀ (w:World) (s₀ s₁:Shared) (mg mb:Str→Option Value) (fa:Addr) (o:Obj) (pm cd doc:Value) (a:Addr) (vs:List Value) (ns:List Int),
   Ground q loose [] XP w s₀ mg mb s₁.heap→YP w s₁.heap→
   s₁.heap.get? fa=some o→o.data=.func (docDef d.name d.params d.body d.scope pm cd doc)→s₁.heap.CodeRec cd d.name→mg d.name=some (.ref fa)→
   s₁.heap.get? a=some { cls:=.type "list",data:=.seq vs.toArray }→IntsAre vs ns→ns.length≤n→s₁.gens=#[]→
   codeAny (model l.prog w) callerA (.call (.ref fa) ⟨[.ref a],[]⟩) (fun r s'=>r=.ok (.ret (.bool true))∧OldK s₁.heap s'.heap∧s'.os=s₁.os∧AllBare s'.gens) s₁) :
  WalkO q loose XP YP l.row.toRowW d [] (fun f vs=>PySem.call f vs):=by
 intro w s₀ s₁ mg mb G Y fa o pm cd doc dV kV ho hd hcd hD hmg hg args vals as hpre hlay hrd hwl hlo
 obtain rfl:dV=.none:=Dflts.none hD hdf
 obtain rfl:kV=.none:=Dflts.noKw hD
 obtain ⟨a,vs,ns,rfl,rfl,hobj,hints,hlen⟩:=script_of hn hpre hwl
 refine enter_call (codeAny_mono (call w s₀ s₁ mg mb fa o pm cd doc a vs ns G Y ho (fd_plain hd) hcd hmg hobj hints hlen hg) fun r s' hq=>?_)
 obtain ⟨rfl,h2,h3,h4⟩:=hq
 exact ⟨.inl ⟨.bool true,.bool true,[],rfl,fun _=>rfl,.bool true,post_true l _,fun _=>⟨List.Pairwise.nil,fun _ hm=>(nomatch hm)⟩⟩,h2,h3,h4⟩
section
variable {prog:Program} {w:World} {A:Around} {E:Value→Shared→Prop} {s:Shared} {K:Frag}
end
end Att
namespace L2
open PySem PySem.Spec PyProof.Rows
theorem q7x:∀ {vs:List Value} {ns:List Int},IntsAre vs ns→Vals (ns.map V.int) vs
 | _,_,.nil=>.nil
 | _,_,.cons n t h=>.cons ⟨t,rfl⟩ (q7x h)
def Only (H:Hp):Prop:=∀ b,H b=none∨∃ o xs,H b=some (.frz o (.lst xs))
theorem law_call {P:Program} {w:World} {K:W.Frag} {mg mb:Str→Option Value} {CX:CXT} {k:Nat} {fa a:Addr} {fd:FuncData} {x:Str} {sp:Sp} {s₁:Shared} {vs:List Value} {ns:List Int}
  (KX:K.In s₁.heap) (hns:s₁.heap.Ns mainGlobals mg) (hb:s₁.heap.Ns builtinsNs mb) (hbb:∀ x:Str,x ≠ "__name__" → mb x=bootBuiltins x) (hlim:s₁.heap.NoLimit) (hg:s₁.gens=#[])
  (ha:s₁.heap.get? a=some { cls:=.type "list",data:=.seq vs.toArray }) (hi:IntsAre vs ns) (hl:ns.length≤sizeLine) (hr:Room k callerA)
  (F:∀ base:Heap,K.In base→base.Ns mainGlobals mg→FnOk P w K mg base CX k fa fd [x] sp) (hbind:∀ (s:Shared) (u:Value),BindsTo s fd ⟨[u],[]⟩ [(x,u)])
  (hsp:∀ H:Hp,Only H→SqL K H a (ns.map V.int)→sp [.ref a] H (fun v _=>v=.bl true) fun _ _ _=>False)
  (hCX:∀ H e s',CX [] H s₁ (fun _ _ _=>False) e s'→False) :
  codeAny (model P w) callerA (.call (.ref fa) ⟨[.ref a],[]⟩) (fun r s'=>r=.ok (.ret (.bool true))∧OldK s₁.heap s'.heap∧s'.os=s₁.os∧AllBare s'.gens) s₁:=by
 have rv:=q7x hi
 have lenV:=hi.length
 have core:∀ H:Hp,Only H→SqL K H a (ns.map V.int)→HOk P w H s₁.heap→(∀ b,H b≠none→b=a)→(H a≠none→K.lookup a=none)→
   codeAny (model P w) callerA (.call (.ref fa) ⟨[.ref a],[]⟩) (fun r s'=>r=.ok (.ret (.bool true))∧OldK s₁.heap s'.heap∧s'.os=s₁.os∧AllBare s'.gens) s₁:=by
  intro H hO hS hok hA hK
  have base_of:∀ {b:Addr} {o:Obj},s₁.heap.get? b=some o→H b=none→(hidT s₁.heap H).get? b=some o:=fun e n=>hidT_get e n
  have noA:∀ {b:Addr} {o:Obj} {es:Array DictEntry} {ep:Nat},s₁.heap.get? b=some o→o.data=.dict es ep→H b=none:=fun {b o es ep} e d=>by
   cases q:H b with
   | none=>rfl
   | some u=>
    have e':b=a:=hA b (by rw [q];simp)
    subst e'
    rw [ha] at e;cases e
    have d':Data.seq vs.toArray _=Data.dict es ep:=d
    cases d'
  have nsK:∀ {b:Addr} {m:Str→Option Value},s₁.heap.Ns b m→(hidT s₁.heap H).Ns b m:=fun {b m} ⟨o,es,ep,e,d,r⟩=>⟨o,es,ep,base_of e (noA e d),d,r⟩
  have hKb:K.In (hidT s₁.heap H):=fun b o e=>base_of (KX b o e) (by
   cases q:H b with
   | none=>rfl
   | some u=>
    have e':b=a:=hA b (by rw [q];simp)
    subst e'
    rw [hK (by rw [q];simp)] at e;cases e)
  have hM:Mod K mg (hidT s₁.heap H):=⟨hKb,nsK hns,⟨mb,nsK hb,hbb⟩,let ⟨mc,h1,h2⟩:=hlim;⟨mc,nsK h1,h2⟩⟩
  have e0:Env0 P w K mg (hidT s₁.heap H) callerA [] s₁ H:=⟨rfl,hM,fun b o e=>of_hidT e,Nat.le_of_eq (hidT_size _ _),trivial,fun b hb=>absurd (show b∈([]:List Addr) from hb) (by simp),hok,.of_eq hg⟩
  refine codeAny_mono ((F _ hKb (nsK hns)).run callerA [] s₁ H ⟨[.ref a],[]⟩ [.ref a] [.ref a] _ _ hr e0 (hbind s₁ (.ref a)) (.cons rfl .nil) (hsp H hO hS)) fun r s' h=>?_
  cases r with
  | error e=>exact (hCX H e s' h).elim
  | ok fl=>
   cases fl with
   | next=>exact False.elim h
   | brk=>exact False.elim h
   | cont=>exact False.elim h
   | ret u=>
    obtain ⟨v,H',os,bare,un,hok',r',q⟩:=h
    have q':v=.bl true:=q
    subst q'
    obtain rfl:u=Value.bool true:=r'
    refine ⟨rfl,OldK.of_keep fun b o e=>?_,os,bare⟩
    cases q:H b with
    | none=>exact un.keep b o e q (by intro z;exact absurd (show b∈([]:List Addr) from z) (by simp)) (by simp)
    | some u=>
     rcases hO b with z | ⟨ob,xs,z⟩
     ·rw [q] at z;cases z
     ·have z2:=un.frzs b ob _ z
      obtain ⟨e1,_⟩:=hok b _ z
      obtain ⟨e2,_⟩:=hok' b _ z2
      rw [e] at e1;cases e1
      exact e2
 cases hk:K.lookup a with
 | some o=>
  have e:=KX a o hk
  rw [ha] at e
  cases e
  refine core (fun _=>none) (fun _=>.inl rfl) (.inr ⟨_,vs.toArray,_,hk,rfl,rfl,rfl,by rw [List.size_toArray,lenV];exact hl,by simpa using rv⟩) (fun b u z=>by have z':(none:Option HO)=some u:=z;cases z') (fun b z=>absurd rfl z) fun z=>absurd rfl z
 | none=>
  refine core (fun b=>if b=a then some (.frz { cls:=.type "list",data:=.seq vs.toArray } (.lst (ns.map V.int))) else none) (fun b=>?_) (.inl (.inr ⟨{ cls:=.type "list",data:=.seq vs.toArray },if_pos rfl⟩)) (fun b u z=>?_) (fun b z=>?_) fun _=>hk
  ·by_cases hb:b=a
   ·exact .inr ⟨_,_,if_pos hb⟩
   ·exact .inl (if_neg hb)
  ·by_cases hb:b=a
   ·have z':=(if_pos hb).symm.trans z
    cases z'
    subst hb
    exact ⟨ha,by rw [List.length_map];exact hl,vs,_,rv,ha⟩
   ·have z':=(if_neg hb).symm.trans z
    cases z'
  ·by_cases hb:b=a
   ·exact hb
   ·exact absurd (if_neg hb) z
end L2
namespace L2
open PySem PySem.Spec PyProof.Rows
theorem walk_of {l:W.OpenLaw} {n k:Nat} {q:Program} {loose:List Str} {XP:(Str→Option Value)→Heap→Prop} {YP:World→Heap→Prop} {d:DefRec} {K:Params→W.Frag} {CX:World→CXT} {sp:World→Sp} {x:Str}
  (hn:l.most=some n) (hn2:n≤sizeLine) (hdf:d.params.defaults=[]) (hr:Room k callerA)
  (hY:∀ (w:World) (h:Heap),YP w h→(K w.params).In h)
  (F:∀ (w:World) (mg:Str→Option Value) (fa:Addr) (h:Heap),(K w.params).In h→h.Ns mainGlobals mg→mg d.name=some (.ref fa)→
   ∃ fd:FuncData,(∀ (s:Shared) (u:Value),BindsTo s fd ⟨[u],[]⟩ [(x,u)])∧
    ∀ base:Heap,(K w.params).In base→base.Ns mainGlobals mg→FnOk l.prog w (K w.params) mg base (CX w) k fa fd [x] (sp w))
  (hsp:∀ (w:World) (H:Hp) (a:Addr) (ns:List Int),ns.length≤n→Only H→SqL (K w.params) H a (ns.map V.int)→sp w [.ref a] H (fun v _=>v=.bl true) fun _ _ _=>False)
  (hCX:∀ (w:World) (H:Hp) (s:Shared) (e:Value) (s':Shared),CX w [] H s (fun _ _ _=>False) e s'→False) :
  W.WalkO q loose XP YP l.row.toRowW d [] (fun f vs=>PySem.call f vs):=by
 refine Att.attach_call hn hdf fun w s₀ s₁ mg mb fa o pm cd doc a vs ns G Y ho hd hcd hmg hobj hints hlen hg=>?_
 have KX:=hY w _ Y
 obtain ⟨fd,hb,hF⟩:=F w mg fa _ KX G.T.g hmg
 exact law_call KX G.T.g G.T.b G.T.builtins G.T.nolimit hg hobj hints (Nat.le_trans hlen hn2) hr hF hb (fun H hO hS=>hsp w H a ns hlen hO hS) fun H e s'=>hCX w H s₁ e s'
end L2
namespace L2
open PySem PySem.Spec PyProof.Rows
def q9j (s:Stmt) (j:Nat):Stmt:=match s with
 | .ClassDef _ _ _ body _ _ _ _ _ _ _=>body.getD j (.Pass ⟨0,0,0,0⟩)
 | _=>.Pass ⟨0,0,0,0⟩
def q0e (s:Stmt):Arguments:=match s with
 | .FunctionDef _ a _ _ _ _ _ _ _ _=>a
 | _=>{ posonlyargs:=[],args:=[],vararg:=none,kwonlyargs:=[],kw_defaults:=[],kwarg:=none,defaults:=[] }
def q0d (s:Stmt):List Stmt:=match s with
 | .FunctionDef _ _ b _ _ _ _ _ _ _=>b
 | _=>[]
def q03 (s:Stmt):Scope:=match s with
 | .FunctionDef _ _ _ _ _ _ sc _ _ _=>sc
 | _=>{ kind:=.function,names:=[],isGenerator:=false,isCoroutine:=false }
abbrev CX0:CXT:=fun _ _ _ _ _ _=>False
abbrev E0:XK:=fun _ _ _=>False
theorem q1a {X:Cx}:q65 CX0 X E0:=fun _ _ _ _ _ _ _ h=>h.elim
structure Fun (K:W.Frag) (x qual:Str) (st:Stmt) (f:Addr) (fd:FuncData):Prop where
 ex:∃ (oc:Value) (od:Option Addr) (kV doc pm:Value) (an:Option Addr) (cdv ct:Value) (osl:Array (Option Value)),
  fd=W.fnOf x qual (q0e st) (q0d st) (q03 st) .none kV doc pm an cdv ct∧K.lookup f=some ⟨oc,od,.func fd,osl⟩∧W.codeIn K cdv qual=true
 kp:W.keepIn K (.ref f)=true
section
variable {P:Program} {w:World} {K:W.Frag} {mg:Str→Option Value} {base:Heap}
theorem Fun.ok {x qual:Str} {st:Stmt} {f:Addr} {fd:FuncData} {N ps:List Str} {k:Nat} {sp:Sp} (F:Fun K x qual st f fd) (S:FnScope N ps (q03 st)) (len:∀ vs H Q E,sp vs H Q E→vs.length=ps.length)
  (hbody:∀ (cdv:Value) (A:Around) (outer:List Env) (s:Shared) (H:Hp) (vs:List V) (Q:VK) (E:XK),Room k (A.deeper (envOfC qual (q03 st) s.heap.objs.size f cdv))→sp vs H Q E→
   ∃ t,PSs (cxOf CX0 P w K mg base N qual (q03 st) f cdv A outer s H E).nox (q0d st) t∧t { nx:=fun _ H'=>Q .non H',rt:=Q } (start N vs) H):FnOk P w K mg base CX0 (k+1) f fd ps sp:=by
 obtain ⟨oc,od,kV,doc,pm,an,cdv,ct,osl,rfl,lk,hcd⟩:=F.ex
 refine fn_of lk hcd S len fun A outer s H vs Q E hr hsp=>?_
 obtain ⟨t,h,q⟩:=hbody cdv A outer s H vs Q E hr hsp
 exact ⟨t,h.nox,q⟩
theorem Fun.binds {x qual:Str} {st:Stmt} {f:Addr} {fd:FuncData} {ps:List Str} (F:Fun K x qual st f fd)
  (h:∀ (kV doc pm:Value) (an:Option Addr) (cdv ct:Value) (us:List Value),us.length=ps.length→bindArgs (W.fnOf x qual (q0e st) (q0d st) (q03 st) .none kV doc pm an cdv ct) ⟨us,[]⟩=pure (ps.zip us)):Binds K fd ps []:=by
 obtain ⟨oc,od,kV,doc,pm,an,cdv,ct,osl,rfl,lk,hcd⟩:=F.ex
 exact .all (h kV doc pm an cdv ct)
theorem q0r {x qual:Str} {st:Stmt} {f:Addr} {oc:Value} {od an:Option Addr} {osl:Array (Option Value)} {kV doc pm cdv ct:Value} (l:K.lookup f=some ⟨oc,od,.func (W.fnOf x qual (q0e st) (q0d st) (q03 st) .none kV doc pm an cdv ct),osl⟩)
  (c:W.codeIn K cdv qual=true) (k:W.keepIn K (.ref f)=true):Fun K x qual st f (W.fnOf x qual (q0e st) (q0d st) (q03 st) .none kV doc pm an cdv ct):=⟨⟨oc,od,kV,doc,pm,an,cdv,ct,osl,rfl,l,c⟩,k⟩
end
theorem hu_of {A:Around} {k:Nat} (hr:Room k A):A.units+1 < cLine:=Nat.lt_of_le_of_lt (Nat.add_le_add_left (by decide:1≤64) _) hr.units
theorem q0c {n:Nat} (h:n≤1000):n < sizeLine:=Nat.lt_of_le_of_lt h (by decide)
section
variable {X:Cx}
theorem pv (i:Nat) {x:Str} {pos:Pos} (hN:X.N[i]?=some x:=by rfl) (hv:Vis X.env.scope x:=by first | exact Or.inl rfl | exact Or.inr (Or.inl rfl) | exact Or.inr (Or.inr rfl)) (hd:(x == ("__debug__" : Str))=false:=by decide)
  (hcd:(x == ("__classdict__" : Str))=false:=by decide):PE X (.Name x pos) (tVar i):=pe_var hN hv hd hcd
end
theorem iteF {A B:Prop} (h:B):if false=true then A else B:=by
 rw [if_neg Bool.false_ne_true]
 exact h
theorem iteT {A B:Prop} (h:A):if true=true then A else B:=by
 rw [if_pos rfl]
 exact h
theorem ite2 {c A B:Prop} [Decidable c] (h1:c→A) (h2:¬ c→B):if c then A else B:=by
 by_cases h:c
 ·rw [if_pos h]
  exact h1 h
 ·rw [if_neg h]
  exact h2 h
def Same (H H':Hp):Prop:=∀ b o,H b=some o→H' b=some o
theorem Same.free {H H':Hp} (e:Same H H') {l:Addr} (h:H' l=Option.none):H l=Option.none:=by
 cases q:H l with
 | none=>rfl
 | some o=>
  rw [e l o q] at h
  cases h
theorem Same.seq {K:W.Frag} {H H':Hp} {a:Addr} {xs:List V} (e:Same H H') (h:SqL K H a xs):SqL K H' a xs:=by
 rcases h with (h | ⟨o,h⟩) | h
 ·exact .inl (.inl (e _ _ h))
 ·exact .inl (.inr ⟨o,e _ _ h⟩)
 ·exact .inr h
end L2
set_option maxHeartbeats 4000000
namespace XL
open PySem
open Sem (wp)
theorem alive_of {o:Obj} (h:o.alive=true):o.isFreed=false:=by
 obtain ⟨c,d,dt,sl⟩:=o
 cases dt <;> first | rfl | cases h
def DK (h h':Heap):Prop:=∀ b o,h.get? b=some o→∃ o',h'.get? b=some o'∧o'.dict=o.dict
theorem DK.refl (h:Heap):DK h h:=fun _ o e=>⟨o,e,rfl⟩
theorem DK.trans {h h1 h2:Heap} (a:DK h h1) (b:DK h1 h2):DK h h2:=fun c o e=>
 let ⟨o1,e1,d1⟩:=a c o e;let ⟨o2,e2,d2⟩:=b c o1 e1;⟨o2,e2,d2.trans d1⟩
theorem DK.of_keeps {h h':Heap} (k:∀ b o,h.get? b=some o→h'.get? b=some o):DK h h':=fun b o e=>⟨o,k b o e,rfl⟩
theorem DK.update {h:Heap} {a:Addr} {f:Obj→Obj} (hd:∀ o,(f o).dict=o.dict) (hf:∀ o,o.isFreed=false→(f o).isFreed=false):DK h (h.update a f):=fun b o e=>by
 by_cases q:b=a
 ·subst q
  exact ⟨_,Heap.get?_update_self f e (hf o (alive_of ((Heap.get?_eq_some _ _ _).1 e).2)),hd o⟩
 ·exact ⟨o,(Heap.get?_update_other h f (Ne.symm q)).trans e,rfl⟩
structure KD {α:Type} (t:Sem α):Prop where
 out:∀ (M:Model) (Γ:Ctx) (P:α→Pos→Shared→Prop) (E:Value→Pos→Shared→Prop) (p:Pos) (s:Shared),wp M Γ t P E p s→wp M Γ t (fun a p' s'=>P a p' s'∧DK s.heap s'.heap) E p s
namespace KD
variable {α β:Type}
theorem any {M:Model} {A:Around} {t:Sem α} {Q:α→Shared→Prop} {E:Value→Shared→Prop} {s:Shared} (k:KD t) (h:wpAny M A t Q E s):wpAny M A t (fun a s'=>Q a s'∧DK s.heap s'.heap) E s:=
 fun Γ p hΓ=>k.out M Γ _ _ p s (h Γ p hΓ)
theorem q3y (a:α):KD (Pure.pure a:Sem α):=⟨fun M Γ P E p s h=>by
 simp only [Sem.wp_pure'] at h ⊢
 exact ⟨h,DK.refl _⟩⟩
theorem q0v (w:String):KD (PySem.unsupported w:Sem α):=⟨fun M Γ P E p s h=>h.elim⟩
theorem q27 {t:Sem α} {f:α→Sem β} (a:KD t) (b:∀ x,KD (f x)):KD (t >>= f):=⟨fun M Γ P E p s h=>by
 rw [Sem.wp_bind'] at h ⊢
 refine Sem.wp_mono M Γ _ (fun x p1 s1 h1=>?_) (fun _ _ _ z=>z) p s (a.out M Γ _ _ p s h)
 obtain ⟨h1,d1⟩:=h1
 refine Sem.wp_mono M Γ _ (fun y p2 s2 h2=>?_) (fun _ _ _ z=>z) p1 s1 ((b x).out M Γ _ _ p1 s1 h1)
 exact ⟨h2.1,d1.trans h2.2⟩⟩
theorem ite' {c:Prop} [Decidable c] {t u:Sem α} (a:KD t) (b:KD u):KD (if c then t else u):=by
 split
 ·exact a
 ·exact b
theorem load' (a:Addr):KD (PySem.load a):=⟨fun M Γ P E p s h=>by
 unfold PySem.load at h ⊢
 rw [Sem.wp_load] at h ⊢
 obtain ⟨o,ho,h⟩:=h
 refine ⟨o,ho,?_⟩
 simp only [Sem.wp_pure] at h ⊢
 exact ⟨h,DK.refl _⟩⟩
theorem update' (a:Addr) (f:Obj→Obj) (hd:∀ o,(f o).dict=o.dict) (hf:∀ o,o.isFreed=false→(f o).isFreed=false):KD (PySem.update a f):=⟨fun M Γ P E p s h=>by
 unfold PySem.update at h ⊢
 rw [Sem.wp_update] at h ⊢
 obtain ⟨o,h⟩:=h
 refine ⟨o,?_⟩
 simp only [Sem.wp_pure] at h ⊢
 exact ⟨h,DK.update hd hf⟩⟩
theorem alloc' (o:Obj):KD (PySem.alloc o):=⟨fun M Γ P E p s h=>by
 unfold PySem.alloc at h ⊢
 rw [Sem.wp_alloc] at h ⊢
 simp only [Sem.wp_pure] at h ⊢
 exact ⟨h,DK.of_keeps fun b u e=>Heap.get?_push_of_some _ e⟩⟩
theorem stack':KD PySem.stack:=⟨fun M Γ P E p s h=>by
 unfold PySem.stack at h ⊢
 rw [Sem.wp_stack] at h ⊢
 simp only [Sem.wp_pure] at h ⊢
 exact ⟨h,DK.refl _⟩⟩
theorem fieldsOf' (v:Value):KD (PySem.fieldsOf v):=by
 unfold PySem.fieldsOf
 cases v <;> first | exact q0v _ | skip
 refine q27 (load' _) fun o=>?_
 split
 ·exact q3y _
 ·exact q0v _
theorem z1p (v:Value) (i:Nat):KD (PySem.field v i):=by
 unfold PySem.field
 refine q27 (fieldsOf' v) fun vs=>?_
 split
 ·exact q3y _
 ·exact q0v _
theorem q6b (g:Array Value→Array Value) (o:Obj):(Obj.mapFields g o).dict=o.dict:=by
 obtain ⟨c,d,dt,sl⟩:=o
 cases dt <;> rfl
theorem q66 (g:Array Value→Array Value) (o:Obj) (h:o.isFreed=false):(Obj.mapFields g o).isFreed=false:=by
 obtain ⟨c,d,dt,sl⟩:=o
 cases dt <;> first | rfl | exact h
theorem q5y (v:Value) (i:Nat) (x:Value):KD (PySem.setField v i x):=by
 unfold PySem.setField
 cases v <;> first | exact q0v _ | skip
 unfold PySem.updateField
 refine q27 (load' _) fun o=>?_
 split
 ·exact ite' (update' _ _ (q6b _) (q66 _)) (q0v _)
 ·exact q0v _
theorem q64 (env:Env) (outer:List Env):KD (PySem.behindIsImport env outer):=by
 unfold PySem.behindIsImport
 repeat' first | exact q3y _ | exact z1p _ _ | apply ite' | apply q27 | intro _
theorem q36:KD PySem.underTheClaimsCaller:=by
 unfold PySem.underTheClaimsCaller
 repeat' first | exact q3y _ | exact stack' | apply ite' | apply q27 | intro _
theorem keptBack' (env:Env) (i:Bool) (l:List Env):KD (PySem.keptBack env i l):=by
 have:=q36
 cases l <;> unfold PySem.keptBack <;> repeat' first | assumption | exact q3y _ | apply ite' | apply q27 | intro _
theorem q4x:∀ l:List Env,KD (PySem.readyFrames l)
 | []=>q3y _
 | env::outer=>by
  have ih:=q4x outer
  have h1:=q64 env outer
  have h2:=fun i=>keptBack' env i outer
  unfold PySem.readyFrames
  cases env.frame with
  | none=>exact q0v _
  | some f=>
   refine q27 (load' _) fun o=>ite' (q3y _) ?_
   refine q27 h1 fun i=>q27 (h2 i) fun b=>q27 (update' _ _ (fun _=>rfl) (fun o h=>by obtain ⟨c,d,dt,sl⟩:=o;cases dt <;> first | rfl | exact h)) fun _=>ih
theorem q82 (l:List Env):KD (PySem.frameObject l):=by
 cases l with
 | nil=>exact q3y _
 | cons env outer=>
  unfold PySem.frameObject
  exact q27 (q4x _) fun _=>q3y _
theorem frameOf' (env:Env):KD (PySem.frameOf env):=by
 unfold PySem.frameOf PySem.frameEnvs
 refine q27 (q27 stack' fun _=>q3y _) fun l=>q27 (q82 _) fun o=>?_
 cases o with
 | none=>exact q0v _
 | some f=>exact q3y _
theorem q7l (f:Addr) (b:Bool):KD (PySem.entryPlaceOf f b):=by
 unfold PySem.entryPlaceOf
 refine q27 stack' fun a=>?_
 split <;> exact q3y _
theorem newEntry' (a b c d e:Value) (pl:List Value):KD (PySem.EntryCells.newEntry a b c d e pl):=by
 unfold PySem.EntryCells.newEntry PySem.newFields PySem.newObj PySem.newObjAsIs
 dsimp only
 repeat' first | exact q0v _ | exact q3y _ | exact alloc' _ | apply ite' | apply q27 | intro _
theorem noteFrame' (e:Value) (env:Env):KD (PySem.noteFrame e env):=by
 unfold PySem.noteFrame
 cases env.frame with
 | none=>exact q0v _
 | some f=>
  dsimp only
  have tail:∀ head,KD (do setField e 1 (← EntryCells.newEntry head (← frameOf env) .none (rawInt f) .none (← entryPlaceOf f (head != .none)))):=fun head=>
   q27 (frameOf' env) fun _=>q27 (q7l _ _) fun _=>q27 (newEntry' _ _ _ _ _ _) fun _=>q5y _ _ _
  refine q27 (z1p _ _) fun head=>ite' ?_ (tail head)
  exact q27 (z1p _ _) fun x=>ite' (q3y _) (q27 (q5y _ _ _) fun _=>tail head)
theorem setFlight' (e:Value) (f:Option Addr):KD (PySem.setFlight e f):=by
 unfold PySem.setFlight
 exact q27 (z1p _ _) fun _=>ite' (q5y _ _ _) (q3y _)
theorem leaving' (env:Env) (e:Value):KD (PySem.leaving env e):=by
 unfold PySem.leaving
 exact q27 (noteFrame' _ _) fun _=>setFlight' _ _
end KD
end XL
namespace XM
inductive All2 {α β:Type} (R:α→β→Prop):List α→List β→Prop
 | nil:All2 R [] []
 | cons {x:α} {y:β} {xs:List α} {ys:List β}:R x y→All2 R xs ys→All2 R (x::xs) (y::ys)
namespace All2
variable {α β:Type} {R S:α→β→Prop}
theorem length {xs:List α} {ys:List β} (h:All2 R xs ys):xs.length=ys.length:=by
 induction h with
 | nil=>rfl
 | cons _ _ ih=>simp [ih]
theorem imp {xs:List α} {ys:List β} (k:∀ x y,R x y→S x y) (h:All2 R xs ys):All2 S xs ys:=by
 induction h with
 | nil=>exact .nil
 | cons r _ ih=>exact .cons (k _ _ r) ih
theorem append {xs xs':List α} {ys ys':List β} (h:All2 R xs ys) (h':All2 R xs' ys'):All2 R (xs++xs') (ys++ys'):=by
 induction h with
 | nil=>exact h'
 | cons r _ ih=>exact .cons r ih
theorem get {xs:List α} {ys:List β} (h:All2 R xs ys):∀ {i:Nat} {x:α},xs[i]?=some x→∃ y,ys[i]?=some y∧R x y:=by
 induction h with
 | nil=>intro i x e;simp at e
 | cons r _ ih=>intro i x e;cases i with
  | zero=>simp at e;subst e;exact ⟨_,rfl,r⟩
  | succ i=>simp at e;obtain ⟨y,h1,h2⟩:=ih e;exact ⟨y,by simpa using h1,h2⟩
theorem of_get {xs:List α}:∀ {ys:List β},xs.length=ys.length→(∀ (i:Nat) x y,xs[i]?=some x→ys[i]?=some y→R x y)→All2 R xs ys:=by
 induction xs with
 | nil=>intro ys e _;cases ys with
  | nil=>exact .nil
  | cons _ _=>simp at e
 | cons x xs ih=>intro ys e k;cases ys with
  | nil=>simp at e
  | cons y ys=>exact .cons (k 0 x y rfl rfl) (ih (by simpa using e) fun i a b h1 h2=>k (i+1) a b (by simpa using h1) (by simpa using h2))
end All2
abbrev PP:=List (Int × Int)
def q0z (q:Int) (p:Int × Int):Bool:=(decide (0≤p.1) && decide (p.1 < q)) && ((decide (0≤p.2) && decide (p.2 < q)) && !decide (p.1=p.2))
def fits (q:Int) (ps:PP):Bool:=(decide (1≤q) && decide (q≤24)) && (decide (ps.length≤60) && ps.all (q0z q))
end XM
namespace L2
open PySem PySem.Spec PyProof.Rows XL
theorem ObjOk.there {P:Program} {w:World} {H:Hp} {h:Heap} {a:Addr} {o:HO} (x:ObjOk P w H h a o):∃ ob,h.get? a=some ob:=by
 cases o with
 | lst xs=>obtain ⟨_,_,_,_,e⟩:=x;exact ⟨_,e⟩
 | tup xs=>obtain ⟨_,_,_,o,e,_⟩:=x;exact ⟨_,e⟩
 | dK kvs=>obtain ⟨_,_,_,_,o,_,_,e,_⟩:=x;exact ⟨_,e⟩
 | dT kvs=>obtain ⟨_,_,_,_,o,_,_,e,_⟩:=x;exact ⟨_,e⟩
 | set S n=>obtain ⟨o,_,_,_,e,_⟩:=x;exact ⟨_,e⟩
 | ins C dx fs=>obtain ⟨_,_,_,e,_⟩:=x;exact ⟨_,e⟩
 | own y=>exact x
 | xd fs=>obtain ⟨_,⟨_,_,_,e,_⟩,_⟩:=x;exact ⟨_,e⟩
 | rng lo hi=>obtain ⟨_,_,_,e⟩:=x;exact ⟨_,e⟩
 | frz ob u=>exact ⟨_,x.1⟩
 | tbl ps=>exact ⟨_,(show h.get? a=some _ from x)⟩
 | met f y=>exact ⟨_,(show h.get? a=some _ from x)⟩
 | ext φ=>exact x.2.1
structure InB (l:List Env) (h0:Heap) (H':Hp) (h:Heap) (B:Heap):Prop where
 old:∀ b o₀ o,h0.get? b=some o₀→b ∉ frs l→h.get? b=some o→B.get? b=some o
 trk:∀ b u o,H' b=some u→h.get? b=some o→B.get? b=some o
structure Fly (P:Program) (w:World) (l:List Env) (H:Hp) (s:Shared) (H':Hp) (a:Addr) (cls:Value) (s':Shared):Prop where
 os:s'.os=s.os
 bare:AllBare s'.gens
 un:Un (frs l) [] H H' s.heap s'.heap
 hok:HOk P w H' s'.heap
 fl:∃ (B:Heap) (t:Addr),Heap.FlyingW B l a cls (.ref t) s'.heap∧InB l s.heap H' s'.heap B
 fresh:H' a=none
 dict:∃ oe,s'.heap.get? a=some oe∧oe.dict=none
def CXE (P:Program) (w:World):CXT:=fun l H s E e s'=>∃ (a:Addr) (cls:Value) (H':Hp),e=.ref a∧Fly P w l H s H' a cls s'∧E cls none H'
theorem un_on {P:Program} {w:World} {l:List Env} {H H':Hp} {h0 h1 h2 B:Heap} (f:Un (frs l) [] H H' h0 h1) (ok:HOk P w H' h1) (fr:∀ b∈frs l,∃ o,h1.get? b=some o∧∀ vs,o.data≠.fields vs)
  (st:B.StaysIn h2) (up:h1.UpToSlots h2) (c:InB l h0 H' h1 B):Un (frs l) [] H H' h0 h2∧HOk P w H' h2∧InB l h0 H' h2 B:=by
 refine ⟨⟨fun b o e n hb hx=>?_,fun b o e n hb hx=>?_,f.free,fun b o e hx=>?_,f.tups,f.frzs,f.tbls⟩,fun b u e=>?_,⟨fun b o₀ o e hb q=>?_,fun b u o e q=>?_⟩⟩
 ·exact st _ _ (c.old b o o e hb (f.keep b o e n hb hx))
 ·obtain ⟨sl,e1⟩:=f.slot b o e n hb hx
  obtain ⟨ob,eo,nf⟩:=fr b hb
  rw [e1] at eo
  cases eo
  obtain ⟨sl2,e2⟩:=up b _ e1 nf
  exact ⟨sl2,e2⟩
 ·obtain ⟨o1,e1⟩:=f.there b o e hx
  by_cases hb:b∈frs l
  ·obtain ⟨ob,eo,nf⟩:=fr b hb
   obtain ⟨sl2,e2⟩:=up b ob eo nf
   exact ⟨_,e2⟩
  ·exact ⟨o1,st _ _ (c.old b o o1 e hb e1)⟩
 ·refine (ok b u e).stay (fun d v hd q=>st d v ?_) (fun _ q=>q) fun _ _ q=>q
  rcases hd with z | z
  ·subst z
   exact c.trk d u v e q
  ·exact c.trk d _ v z q
 ·obtain ⟨o1,e1⟩:=f.there b o₀ e (by simp)
  have e2:=c.old b o₀ o1 e hb e1
  have e3:=st _ _ e2
  rw [q] at e3
  cases e3
  exact e2
 ·obtain ⟨o1,e1⟩:=(ok b u e).there
  have e2:=c.trk b u o1 e e1
  have e3:=st _ _ e2
  rw [q] at e3
  cases e3
  exact e2
section
variable {X:Cx} {pins:List (Addr × Obj)} {σ:St} {H H':Hp} {s s':Shared} {a:Addr} {cls:Value} {M:Model} {E:Value→Shared→Prop}
theorem fly_out {B:Heap} {t:Addr} (I:Inv X pins σ H s) (hex:X.ex=[]) (os:s'.os=s.os) (bare:AllBare s'.gens) (un:Un (frs X.stack) [] H H' s.heap s'.heap) (hok:HOk X.prog X.w H' s'.heap)
  (fl:Heap.FlyingW B X.outer a cls (.ref t) s'.heap) (c:InB X.stack s.heap H' s'.heap B) (fresh:H' a=none) (dict:∃ oe,s'.heap.get? a=some oe∧oe.dict=none):Fly X.prog X.w X.outer X.H₀ X.s₀ H' a cls s':=by
 have J:Inv X pins σ H' s':=I.call' (ch:=[]) os un hok bare (fun _ z=>nomatch z)
 have ub:=J.base
 rw [hex] at ub
 refine ⟨J.os,bare,ub,hok,⟨B,t,fl,⟨fun b o₀ o e hb q=>?_,c.trk⟩⟩,fresh,dict⟩
 obtain ⟨o1,e1⟩:=I.base.there b o₀ e (by rw [hex];simp)
 refine c.old b o1 o e1 (fun z=>?_) q
 rcases List.mem_cons.mp (I.stkSub b z) with z | z
 ·exact absurd z (Nat.ne_of_lt (Nat.lt_of_lt_of_le (Heap.lt_size e) I.ok.above))
 ·exact hb z
theorem q2h {l:List Env} {base h:Heap} (f:h.FunFrames base l):∀ b∈frs l,∃ o,h.get? b=some o∧∀ vs,o.data≠.fields vs:=fun _ hb=>(f.mem hb).2
theorem q8n {vs:List Value} {h':Heap} {Q:Unit→Shared→Prop} (I:Inv X pins σ H s) (hex:X.ex=[]) (hst:X.stack=X.env::X.outer) (hf:X.env.frame=some X.env.locals) (hx:Heap.MadeExcOf s.heap h' a cls vs)
  (hQ:∀ s'',Fly X.prog X.w X.outer X.H₀ X.s₀ H a cls s''→Q () s''):wpAny M X.A (leaving X.env (.ref a)) Q E { s with heap:=h' }:=by
 have hin:∀ env∈X.stack,∀ b,env.frame=some b→b∈frs X.stack:=fun env he b hb=>List.mem_filterMap.mpr ⟨env,he,hb⟩
 have hl:s.heap.FunFrames (W.hideAll s.heap (frs X.stack)) X.stack:=W.funFrames_hide I.stack hin
 have hl':s.heap.FunFrames (W.hideAll s.heap (frs X.stack)) (X.env::X.outer):=by
  generalize W.hideAll s.heap (frs X.stack)=B at hl
  rw [hst] at hl
  exact hl
 have hfr:=I.ok.frames
 rw [hst] at hfr
 refine wpAny_mono ((KD.leaving' X.env (.ref a)).any (wpAny_leaves_madeW (base:=W.hideAll s.heap (frs X.stack)) (h:=s.heap) (L:=X.env.locals) (s:={ s with heap:=h' })
  (Q:=fun _ s''=>∃ h2 t,s''={ s with heap:=h2 }∧Heap.FlyingW (W.hideAll s.heap (frs X.stack)) X.outer a cls (.ref t) h2∧h'.UpToSlots h2) hfr hf (fun b o q=>W.of_hideAll _ q) hl' hx
  fun h2 t x1 _ _ x4=>⟨h2,t,rfl,x1,x4⟩)) (fun _ s'' z=>?_) fun _ _ z=>z
 obtain ⟨⟨h2,t,rfl,fl,up⟩,dk⟩:=z
 refine hQ _ ?_
 have c0:InB X.stack s.heap H s.heap (W.hideAll s.heap (frs X.stack)):=⟨fun b o₀ o _ hb q=>W.hideAll_get _ q hb,fun b u o e q=>W.hideAll_get _ q fun z=>by
  have:=I.stkFree b z
  rw [e] at this
  cases this⟩
 obtain ⟨u2,ok2,c2⟩:=un_on (P:=X.prog) (w:=X.w) (l:=X.stack) (H:=H) (H':=H) (h0:=s.heap) (h1:=s.heap) (h2:=h2) Un.refl I.hok (q2h hl) fl.1 ((Heap.UpToSlots.of_keeps hx.keeps).trans up) c0
 refine fly_out (s':={ s with heap:=h2 }) I hex rfl I.bare u2 ok2 fl c2 ?_ ?_
 ·cases q:H a with
  | none=>rfl
  | some u=>
   obtain ⟨ob,e⟩:=(I.hok a u q).there
   have:=hx.new
   rw [e] at this
   cases this
 ·obtain ⟨t',he,_⟩:=hx.there
  obtain ⟨o',e',d'⟩:=dk a _ he
  exact ⟨o',e',d'⟩
theorem q9r {Q:Unit→Shared→Prop} (I:Inv X pins σ H s) (hex:X.ex=[]) (hst:X.stack=X.env::X.outer) (hf:X.env.frame=some X.env.locals) (f:Fly X.prog X.w X.stack H s H' a cls s')
  (hQ:∀ s'',Fly X.prog X.w X.outer X.H₀ X.s₀ H' a cls s''→Q () s''):wpAny M X.A (leaving X.env (.ref a)) Q E s':=by
 obtain ⟨B,t,fl,c⟩:=f.fl
 have hfr:=I.ok.frames
 rw [hst] at hfr
 have fl':=fl
 rw [hst] at fl'
 refine wpAny_mono ((KD.leaving' X.env (.ref a)).any (wpAny_leaves_onW (base:=B) (L:=X.env.locals) (s:=s') (Q:=fun _ s''=>∃ h2,s''={ s' with heap:=h2 }∧Heap.FlyingW B X.outer a cls (.ref t) h2∧s'.heap.UpToSlots h2) hfr hf fl'
  fun h2 x1 x2=>⟨h2,rfl,x1,x2⟩)) (fun _ s'' z=>?_) fun _ _ z=>z
 obtain ⟨⟨h2,rfl,fl2,up⟩,dk⟩:=z
 refine hQ _ ?_
 obtain ⟨u2,ok2,c2⟩:=un_on f.un f.hok (q2h fl.2.2.1) fl2.1 up c
 refine fly_out (s':={ s' with heap:=h2 }) I hex f.os f.bare u2 ok2 fl2 c2 f.fresh ?_
 obtain ⟨oe,e,d⟩:=f.dict
 obtain ⟨o',e',d'⟩:=dk a oe e
 exact ⟨o',e',d'.trans d⟩
theorem Fly.on {l:List Env} {P:Program} {w:World} {B:Heap} {t:Addr} {h2:Heap} (f:Fly P w l H s H' a cls s') (fl:Heap.FlyingW B l a cls (.ref t) s'.heap) (c:InB l s.heap H' s'.heap B) (fl2:Heap.FlyingW B l a cls (.ref t) h2)
  (up:s'.heap.UpToSlots h2) (dk:DK s'.heap h2):Fly P w l H s H' a cls { s' with heap:=h2 }:=by
 obtain ⟨u2,ok2,c2⟩:=un_on f.un f.hok (q2h fl.2.2.1) fl2.1 up c
 refine ⟨f.os,f.bare,u2,ok2,⟨B,t,fl2,c2⟩,f.fresh,?_⟩
 obtain ⟨oe,e,d⟩:=f.dict
 obtain ⟨o',e',d'⟩:=dk a oe e
 exact ⟨o',e',d'.trans d⟩
theorem catch_note {A:Around} {R:Shared→Prop} {env:Env} {outer:List Env} {L:Addr} {P:Program} {w:World} (hfr:A.frames=some (env::outer)) (hf:env.frame=some L) (f:Fly P w (env::outer) H s H' a cls s')
  (h:∀ s5,Fly P w (env::outer) H s H' a cls s5→R s5):wpAny M A (noteFrame (.ref a) env) (fun _ s₂=>wpAny M A (setFlight (.ref a) none) (fun _ s₃=>R s₃) E s₂) E s':=by
 obtain ⟨B,t,fl,c⟩:=f.fl
 refine wpAny_mono ((KD.noteFrame' (.ref a) env).any (wpAny_looks_onW (base:=B) (L:=L) (s:=s') (Q:=fun _ s2=>∃ h2,s2={ s' with heap:=h2 }∧Heap.HeldW B (env::outer) a cls (.ref t) L h2∧s'.heap.UpToSlots h2) hfr hf fl
  fun h2 x1 x2=>⟨h2,rfl,x1,x2⟩)) (fun _ s2 z=>?_) fun _ _ z=>z
 obtain ⟨⟨h2,rfl,hd2,up2⟩,dk2⟩:=z
 refine wpAny_mono ((KD.setFlight' (.ref a) none).any (wpAny_landsW (s:={ s' with heap:=h2 }) (Q:=fun _ s3=>∃ h3,s3={ s' with heap:=h3 }∧Heap.FlyingW B (env::outer) a cls (.ref t) h3∧h2.UpToSlots h3) hd2
  fun h3 x1 x2=>⟨h3,rfl,x1,x2⟩)) (fun _ s3 z=>?_) fun _ _ z=>z
 obtain ⟨⟨h3,rfl,fl3,up3⟩,dk3⟩:=z
 exact h _ (f.on fl c fl3 (up2.trans up3) (dk2.trans dk3))
theorem z04 {A:Around} {R:Shared→Prop} {l:List Env} {P:Program} {w:World} (f:Fly P w l H s H' a cls s')
  (h:∀ s5,Fly P w l H s H' a cls s5→R s5):wpAny M A (setFlight (.ref a) none) (fun _ s₃=>R s₃) E s':=by
 obtain ⟨B,t,fl,c⟩:=f.fl
 refine wpAny_mono ((KD.setFlight' (.ref a) none).any (lands_againW (s:=s') (Q:=fun _ s3=>∃ h3,s3={ s' with heap:=h3 }∧Heap.FlyingW B l a cls (.ref t) h3∧s'.heap.UpToSlots h3) fl
  fun h3 x1 x2=>⟨h3,rfl,x1,x2⟩)) (fun _ s3 z=>?_) fun _ _ z=>z
 obtain ⟨⟨h3,rfl,fl3,up3⟩,dk3⟩:=z
 exact h _ (f.on fl c fl3 up3 dk3)
def excP (a:Addr) (cls:Value) (h:Heap):Prop:=∃ oe vs,h.get? a=some oe∧oe.cls=cls∧oe.dict=none∧oe.data=.fields vs
def excO (a:Addr) (cls:Value):HO:=.ext (excP a cls)
theorem excO_ok {P:Program} {w:World} {H:Hp} {h:Heap} (x:excP a cls h):ObjOk P w H h a (excO a cls):=by
 refine ⟨x,?_,fun h1 h2 p k=>?_⟩
 ·obtain ⟨oe,_,e,_⟩:=x
  exact ⟨oe,e⟩
 ·obtain ⟨oe,vs,e,r⟩:=p
  exact ⟨oe,vs,k oe e,r⟩
theorem Inv.exc (I:Inv X pins σ H s) (e:H a=some (excO a cls)):excP a cls s.heap:=(show ObjOk X.prog X.w H s.heap a (excO a cls) from I.hok a _ e).1
theorem Fly.exc {l:List Env} {P:Program} {w:World} (f:Fly P w l H s H' a cls s'):excP a cls s'.heap:=by
 obtain ⟨B,t,fl,_⟩:=f.fl
 obtain ⟨oe,vs,e,hc,hd,_⟩:=fl.first
 obtain ⟨o2,e2,d2⟩:=f.dict
 rw [e] at e2
 cases e2
 exact ⟨oe,vs,e,hc,d2,hd⟩
theorem Inv.track {o:HO} (I:Inv X pins σ H s) (hn:H a=none) (h0:X.s₀.heap.get? a=none) (hL:a≠X.env.locals) (hC:∀ x c,X.env.cells.lookup x=some c→c≠a) (hp:∀ p∈X.pn++pins,p.1≠a)
  (new:ObjOk X.prog X.w (upd H a o) s.heap a o):Inv X pins σ (upd H a o) s:=by
 refine ⟨I.ok,I.os,I.bare,⟨I.base.keep,I.base.slot,fun b ob e n hx=>?_,I.base.there,fun b xs e=>?_,fun b u xs e=>?_,fun b ps e=>?_⟩,I.loc,I.cell,?_,fun x c e=>?_,fun p hp'=>?_,fun b u e=>?_,I.len⟩
 ·rw [q08 (fun z=>by subst z;rw [h0] at e;cases e)]
  exact I.base.free b ob e n hx
 ·rw [q08 (q05 (I.base.tups b xs e) hn)]
  exact I.base.tups b xs e
 ·rw [q08 (q05 (I.base.frzs b u xs e) hn)]
  exact I.base.frzs b u xs e
 ·obtain ⟨more,q⟩:=I.base.tbls b ps e
  exact ⟨more,by rw [q08 (q05 q hn)];exact q⟩
 ·rw [q08 (Ne.symm hL)]
  exact I.free
 ·rw [q08 (hC x c e)]
  exact I.freeC x c e
 ·obtain ⟨e,n,r⟩:=I.pin p hp'
  exact ⟨e,by rw [q08 (hp p hp')];exact n,r⟩
 ·by_cases hb:b=a
  ·subst hb
   rw [q01] at e
   cases e
   exact new
  ·rw [q08 hb] at e
   exact (I.hok b u e).stay (fun _ _ _ q=>q) (fun c q=>by rw [q08 (q05 q hn)];exact q) fun c xs q=>by rw [q08 (q05 q hn)];exact q
theorem Fly.inv (I:Inv X pins σ H s) (hex:X.ex=[]) (f:Fly X.prog X.w X.stack H s H' a cls s'):Inv X pins σ (upd H' a (excO a cls)) s':=by
 have J:Inv X pins σ H' s':=I.call' (ch:=[]) f.os f.un f.hok f.bare (fun _ z=>nomatch z)
 obtain ⟨B,t,fl,c⟩:=f.fl
 obtain ⟨oe,vs,e,hc,hdn,hd⟩:=f.exc
 have hBa:B.get? a=none:=fl.2.1
 have nfr:a ∉ frs X.stack:=fun z=>by
  obtain ⟨o,ho,nf⟩:=(fl.2.2.1.mem z).2
  rw [e] at ho
  cases ho
  exact nf vs hd
 have nold:∀ b o,s.heap.get? b=some o→b ∉ frs X.stack→b≠a:=fun b o eb hb z=>by
  subst z
  have:=c.old b o oe eb hb e
  rw [hBa] at this
  cases this
 refine J.track f.fresh ?_ ?_ (fun x d ed z=>?_) (fun p hp z=>?_) (excO_ok f.exc)
 ·cases q:X.s₀.heap.get? a with
  | none=>rfl
  | some o0=>
   obtain ⟨o1,e1⟩:=I.base.there a o0 q (by rw [hex];simp)
   exact absurd rfl (nold a o1 e1 nfr)
 ·intro z
  obtain ⟨m,⟨o,es,ep,ho,hdd,_⟩,_⟩:=J.loc
  rw [← z,e] at ho
  cases ho
  rw [hd] at hdd
  cases hdd
 ·obtain ⟨v,o,ho,hdd⟩:=J.cell x d ed
  rw [z,e] at ho
  cases ho
  rw [hd] at hdd
  cases hdd
 ·obtain ⟨ep,_,nl,nf,_⟩:=I.pin p hp
  refine nold p.1 p.2 ep (fun q=>?_) z
  rcases List.mem_cons.mp (I.stkSub _ q) with q | q
  ·exact nl q
  ·exact nf q
end
end L2
namespace L2
open PySem PySem.Spec PyProof.Rows XL
structure Lets (X:Cx) (E:XK):Prop where
 ex:X.ex=[]
 st:X.stack=X.env::X.outer
 fr:X.env.frame=some X.env.locals
 xe:∀ (e:Value) (s':Shared),wpAny (model X.prog X.w) X.A (leaving X.env e) (fun _ s''=>CXE X.prog X.w X.outer X.H₀ X.s₀ E e s'') (fun e' s''=>CXE X.prog X.w X.outer X.H₀ X.s₀ E e' s'') s'→X.xe e s'
 po:PassesOwn (model X.prog X.w) X.A X.env X.xe
theorem q5c {P:Program} {w:World} {K:W.Frag} {mg:Str→Option Value} {base:Heap} {N:List Str} {qual:Str} {scope:Scope} {f:Addr} {cd:Value} {A:Around} {outer:List Env} {s:Shared} {H:Hp} {E:XK} :
  Lets (cxOf (CXE P w) P w K mg base N qual scope f cd A outer s H E) E:=⟨rfl,rfl,rfl,fun _ _ h=>h,PassesOwn.leaving⟩
theorem Lets.pass {X:Cx} {E:XK} (l:Lets X E):q65 (CXE X.prog X.w) X E:=fun pins σ H s e s' I h=>by
 obtain ⟨a,cls,H',rfl,f,q⟩:=h
 exact l.xe _ _ (q9r I l.ex l.st l.fr f fun s'' g=>⟨a,cls,H',rfl,g,q⟩)
structure Err (K:W.Frag) (C:Addr) (B newId initId:String) (bmB:List Value):Prop where
 ok:W.excIn K C bmB newId=true
 base:ExcBaseFacts B newId initId bmB
theorem Err.obj {K:W.Frag} {C:Addr} {B newId initId:String} {bmB:List Value} (c:Err K C B newId initId bmB) {h:Heap} (X:K.In h) :
  ∃ bm N nm q bs hdct sn sub ab col dd k0 k1 k2 k3 k5 mN,h.get? C=some (excClassObj nm q C N bs bm hdct sn sub ab col dd k0 k1 k2 k3 k5 newId)∧h.Ns N mN∧mN "__init__" = none∧OwnTail h bmB bm:=by
 have q:=c.ok
 unfold W.excIn at q
 split at q
 ·rename_i dd cd sl ho
  split at q
  ·rename_i C' bm k0 k1 k2 k3 n k5 hm hs
   simp only [Bool.and_eq_true,beq_iff_eq,Bool.not_eq_true'] at q
   obtain ⟨⟨⟨⟨⟨rfl,rfl⟩,hdel⟩,ht⟩,hok⟩,hni⟩:=q
   obtain ⟨nm,bs,mro,ns,qn,hd,sn,sub,ab,col,del⟩:=cd
   dsimp only at hm hdel hok hni
   subst hm hdel
   have hsl:sl=#[k0,k1,k2,k3,some (.builtin n),k5]:=by
    obtain ⟨l⟩:=sl
    simp only at hs
    rw [hs]
   subst hsl
   exact ⟨bm,ns,nm,qn,bs,hd,sn,sub,ab,col,dd,k0,k1,k2,k3,k5,_,X _ _ ho,.of_isNs (W.isNs_of_in X hok),W.nsMap_none_of_in X hok hni,W.tail_of_in X ht⟩
  ·cases q
 ·cases q
section
variable {X:Cx} {E:XK} {C:Addr} {B newId initId:String} {bmB:List Value} {x:Str} {np cpos pos:Pos} {e₀:Expr} {rest:List Expr} {t:TA}
def tRaise (C:Addr) (E:XK) (t:TA):TS:=fun _ σ H=>t σ H fun vs H1=>vs.length≤sizeLine∧E (.ref C) none H1
theorem z0v (l:Lets X E) (c:Err X.K C B newId initId bmB) (hh:X.A.handled=none) (hg:Gl X x) (hm:X.mg x=some (.ref C)) (ha:PA X (e₀::rest) t)
  (he:starEach (e₀::rest) X.env=(false,eval e₀ X.env)::starEach rest X.env:=by rfl) (hplain:(backTo cpos (starEach rest X.env)).any (·.1)=false:=by rfl) (hd:(x == ("__debug__" : Str))=false:=by decide) :
  PS X (.Raise (some (.Call (.Name x np) (e₀::rest) [] cpos)) none pos) (tRaise C E t):=by
 intro pins s σ H D I h
 obtain ⟨tl,N,nm,q,bs,hdct,sn,sub,ab,col,dd,k0,k1,k2,k3,k5,mN,hC,hN,hni,T⟩:=c.obj I.ok.mod.kin
 refine wpAny_Raise_call_subT (C:=C) (nm:=nm) (q:=q) (N:=N) (bs:=bs) (bm:=tl) (hdct:=hdct) (sn:=sn) (sub:=sub) (ab:=ab) (col:=col) (dd:=dd) (k0:=k0) (k1:=k1) (k2:=k2) (k3:=k3) (k5:=k5)
  c.base (mN:=mN) (T.hasType c.base.hasBase) hh (by rw [he];show (false || (backTo cpos (starEach rest X.env)).any (·.1))=false;rw [hplain];rfl) hni (q4t I hg hm ⟨rfl,?_⟩ hd)
 have hv:=ha cpos pins s σ H _ I h
 rw [he] at hv ⊢
 refine Calls.evalArgs_plain (wpAny_mono hv (fun us s2 z=>?_) fun _ _ y=>y)
 obtain ⟨vs,H1,I1,r,hz,hE⟩:=z
 exact ⟨rfl,by show us.length≤sizeLine;rw [← r.length];exact hz,I1.bk _ _ hC,hN.keeps I1.bk,T.keeps I1.bk,fun h' e hm=>l.xe _ _ (q8n I1 l.ex l.st l.fr hm fun s'' g=>⟨e,_,H1,rfl,g,hE⟩)⟩
end
section
variable {P:Program} {w:World} {K:W.Frag} {mg:Str→Option Value} {base:Heap}
theorem Fun.okE {x qual:Str} {st:Stmt} {f:Addr} {fd:FuncData} {N ps:List Str} {k:Nat} {sp:Sp} (F:Fun K x qual st f fd) (S:FnScope N ps (q03 st)) (len:∀ vs H Q E,sp vs H Q E→vs.length=ps.length)
  (hbody:∀ (cdv:Value) (A:Around) (outer:List Env) (s:Shared) (H:Hp) (vs:List V) (Q:VK) (E:XK),Room k (A.deeper (envOfC qual (q03 st) s.heap.objs.size f cdv))→sp vs H Q E→
   ∃ t,PSs (cxOf (CXE P w) P w K mg base N qual (q03 st) f cdv A outer s H E) (q0d st) t∧t { nx:=fun _ H'=>Q .non H',rt:=Q } (start N vs) H):FnOk P w K mg base (CXE P w) (k+1) f fd ps sp:=by
 obtain ⟨oc,od,kV,doc,pm,an,cdv,ct,osl,rfl,lk,hcd⟩:=F.ex
 exact fn_of lk hcd S len fun A outer s H vs Q E hr hsp=>hbody cdv A outer s H vs Q E hr hsp
end
abbrev Cx.hand (X:Cx) (v:Value):Cx:={ X with A:=X.A.mark (some v),calm:=false,xe:=fun _ _=>False }
theorem Cx.Ok.hand {X:Cx} (ok:X.Ok) (v:Value):(X.hand v).Ok:=
 ⟨ok.mod,ok.kind,ok.glob,ok.blt,ok.above,ok.inj,ok.has,ok.cab,(fun h=>Bool.noConfusion h),ok.frames,ok.stk,ok.exf,ok.bs,ok.bsz,ok.noex,ok.exfs,ok.funs,ok.frf⟩
abbrev Cx.pinned (X:Cx) (pn:List (Addr × Obj)):Cx:={ X with pn:=X.pn++pn }
abbrev Cx.tryC (X:Cx) (pn:List (Addr × Obj)) (σ₀:St) (E:XK):Cx:=
 { X with pn:=X.pn++pn,xe:=fun e s'=>∃ (H1:Hp) (s1:Shared),Inv (X.pinned pn) [] σ₀ H1 s1∧CXE X.prog X.w X.stack H1 s1 E e s' }
section
variable {X:Cx} {pins:List (Addr × Obj)} {σ:St} {H H':Hp} {s s':Shared}
theorem Inv.hand (I:Inv X pins σ H s) (v:Value):Inv (X.hand v) pins σ H s:=⟨I.ok.hand v,I.os,I.bare,I.base,I.loc,I.cell,I.free,I.freeC,I.pin,I.hok,I.len⟩
theorem Inv.unhand {v:Value} (I:Inv (X.hand v) pins σ H s) (ok:X.Ok):Inv X pins σ H s:=⟨ok,I.os,I.bare,I.base,I.loc,I.cell,I.free,I.freeC,I.pin,I.hok,I.len⟩
theorem Inv.toTry {σ₀:St} {E:XK} (I:Inv X pins σ H s):Inv (X.tryC pins σ₀ E) [] σ H s:=
 ⟨⟨I.ok.mod,I.ok.kind,I.ok.glob,I.ok.blt,I.ok.above,I.ok.inj,I.ok.has,I.ok.cab,I.ok.hd,I.ok.frames,I.ok.stk,I.ok.exf,I.ok.bs,I.ok.bsz,I.ok.noex,I.ok.exfs,I.ok.funs,I.ok.frf⟩,
  I.os,I.bare,I.base,I.loc,I.cell,I.free,I.freeC,(fun p hp=>I.pin p (by rw [List.append_nil] at hp;exact hp)),I.hok,I.len⟩
theorem Inv.ofTry {σ₀:St} {E:XK} (I:Inv (X.tryC pins σ₀ E) [] σ H s) (ok:X.Ok):Inv X pins σ H s:=
 ⟨ok,I.os,I.bare,I.base,I.loc,I.cell,I.free,I.freeC,(fun p hp=>I.pin p (by rw [List.append_nil];exact hp)),I.hok,I.len⟩
theorem Inv.ofPin (I:Inv (X.pinned pins) [] σ H s) (ok:X.Ok):Inv X pins σ H s:=
 ⟨ok,I.os,I.bare,I.base,I.loc,I.cell,I.free,I.freeC,(fun p hp=>I.pin p (by rw [List.append_nil];exact hp)),I.hok,I.len⟩
def q7b (CX:CXT) (X:Cx) (σ₀:St) (E:XK):Prop:=∀ (pins:List (Addr × Obj)) (H:Hp) (s:Shared) (e:Value) (s':Shared),Inv X pins σ₀ H s→CX X.stack H s E e s'→X.xe e s'
theorem q7r {pn:List (Addr × Obj)} {σ₀:St} {E:XK}:q7b (CXE X.prog X.w) (X.tryC pn σ₀ E) σ₀ E:=fun pins H s e s' I h=>
 ⟨H,s,⟨⟨I.ok.mod,I.ok.kind,I.ok.glob,I.ok.blt,I.ok.above,I.ok.inj,I.ok.has,I.ok.cab,I.ok.hd,I.ok.frames,I.ok.stk,I.ok.exf,I.ok.bs,I.ok.bsz,I.ok.noex,I.ok.exfs,I.ok.funs,I.ok.frf⟩,
  I.os,I.bare,I.base,I.loc,I.cell,I.free,I.freeC,(fun p hp=>I.pin p (by rw [List.append_nil] at hp;exact List.mem_append_left _ hp)),I.hok,I.len⟩,h⟩
theorem gone_ok {M:Model} {A:Around} {E:Value→Shared→Prop} {i:Nat} {x:Str} {pos:Pos} {Q:Unit→Shared→Prop} (I:Inv X pins σ H s) (hN:X.N.Nodup) (hi:X.N[i]?=some x) (hk:X.env.scope.names.lookup x=some .local)
  (h:∀ s',Inv X pins (σ.set i none) H s'→Q () s'):wpAny M A (do bindName X.env x .none;unbindBehindTheSuite X.env x pos) Q E s:=by
 obtain ⟨m,hn,hl⟩:=id I.loc
 have hcls:(X.env.scope.kind == .class || (X.env.scope.kind == .module && X.env.locals != X.env.globals))=false:=by rw [I.ok.kind];rfl
 refine wpAny_nameGoes_keeps hk hn hcls fun h' v hn' hs=>h _ ?_
 have other:∀ b o,s.heap.get? b=some o→b≠X.env.locals→h'.get? b=some o:=fun b o e q=>(hs.2 b q).trans e
 have neL:∀ b o,X.s₀.heap.get? b=some o→b≠X.env.locals:=fun b o e=>Nat.ne_of_lt (Nat.lt_of_lt_of_le (Heap.lt_size e) I.ok.above)
 have trk:∀ b u,H b=some u→b≠X.env.locals:=fun b u e z=>by rw [z,I.free] at e;cases e
 refine ⟨I.ok,I.os,I.bare,⟨fun b o e n hb hx=>?_,fun b o e n hb hx=>?_,I.base.free,fun b o e hx=>?_,I.base.tups,I.base.frzs,I.base.tbls⟩,⟨_,hn',fun j y v' e1 e2 e3=>?_⟩,fun y c e=>?_,I.free,I.freeC,fun p hp=>?_,fun b u e=>?_,?_⟩
 ·exact other b o (I.base.keep b o e n hb hx) (neL b o e)
 ·obtain ⟨sl,e1⟩:=I.base.slot b o e n hb hx
  exact ⟨sl,other b _ e1 (neL b o e)⟩
 ·obtain ⟨o',e1⟩:=I.base.there b o e hx
  exact ⟨o',other b o' e1 (neL b o e)⟩
 ·have hj:j≠i:=fun z=>by
   subst z
   rw [List.getElem?_set] at e2
   simp at e2
  rw [List.getElem?_set_ne (Ne.symm hj)] at e2
  obtain ⟨u',r',q⟩:=hl j y v' e1 e2 e3
  refine ⟨u',r',?_⟩
  rcases q with ⟨k,e⟩ | ⟨k,c,e,z⟩
  ·refine .inl ⟨k,?_⟩
   have ne:y≠x:=fun e=>hj (q3d hN e1 (e ▸ hi))
   simp [ne,e]
  ·exact .inr ⟨k,c,e,z.sameBut hs (I.cne y c e)⟩
 ·obtain ⟨w',z⟩:=I.cell y c e
  exact ⟨w',z.sameBut hs (I.cne y c e)⟩
 ·obtain ⟨e,n,ne,nf,d⟩:=I.pin p hp
  exact ⟨other p.1 p.2 e ne,n,ne,nf,d⟩
 ·refine (I.hok b u e).stay (fun c w' hc q=>other c w' q ?_) (fun _ q=>q) fun _ _ q=>q
  rcases hc with z | z
  ·subst z
   exact trk c u e
  ·exact trk c _ z
 ·simpa using I.len
end
structure Named (K:W.Frag) (D:Addr):Prop where
 cls:(W.clsIn K D).isSome=true
 ty:W.typeIn K (.ref D)=some (.type "type")
 exc:W.mroIn K D (.type "BaseException")=some true
theorem exc_hit {K:W.Frag} {M:Model} {A:Around} {E:Value→Shared→Prop} {s:Shared} {a C D:Addr} {r:Bool} {Q:Bool→Shared→Prop} (X:K.In s.heap) (n:Named K D) (p:excP a (.ref C) s.heap) (hm:W.mroIn K C (.ref D)=some r) (h:Q r s) :
  wpAny M A (excMatches (.ref a) (.ref D)) Q E s:=by
 obtain ⟨oe,vs,e,hc,_⟩:=p
 have L0:W.Looks M s.heap (typeOf (.ref D)) (.type "type"):=W.looks_typeIn X n.ty
 have L1:W.Looks M s.heap (isInstance (.ref D) (.type "tuple")) false:=L0.andThen (W.Looks.of_pure tc_notTuple)
 have L2:W.Looks M s.heap (isType (.ref D)) true:=by
  have hcD:=n.cls
  unfold W.clsIn at hcD
  split at hcD
  ·rename_i c' d' cd' sl' ho
   intro A' Q' E' s' k q
   unfold isType loadHead
   exact wpAny_bind (wpAny_loadPart (k _ _ (X _ _ ho)) (wpAny_pure q))
  ·cases hcD
 have L3:W.Looks M s.heap (isExcClass (.ref D)) true:=by
  unfold isExcClass
  exact L2.andThen (by rw [if_pos rfl];exact W.looks_mroIn X n.exc)
 have L4:W.Looks M s.heap (typeOf (.ref a)) (.ref C):=hc ▸ (W.Looks.ld e).andThen .now
 have L5:W.Looks M s.heap (isSubtype (.ref C) (.ref D)) r:=W.looks_mroIn X hm
 unfold excMatches
 refine wpAny_bind (L1.here ?_)
 simp only [Bool.false_eq_true,if_false,List.forIn_cons,List.forIn_nil]
 refine wpAny_bind (wpAny_pure ?_)
 refine wpAny_bind (wpAny_bind (wpAny_bind (L3.here ?_)))
 simp only [Bool.not_true,Bool.false_eq_true,if_false]
 refine wpAny_pure (wpAny_pure ?_)
 refine wpAny_bind (L4.here (wpAny_bind ?_))
 rw [List.forIn_cons]
 refine wpAny_bind (wpAny_bind (L5.here ?_))
 cases r with
 | true=>exact wpAny_pure (wpAny_pure (wpAny_pure h))
 | false=>exact wpAny_pure (wpAny_pure (wpAny_pure h))
def tTry (K:W.Frag) (D:Addr) (i:Nat) (tb:St→XK→TS) (ts:TS):TS:=fun G σ H=>
 tb σ (fun cls _ H'=>∃ C,cls=.ref C∧W.mroIn K C (.ref D)=some true∧∀ a,H' a=none→
  ts { nx:=fun σ' H2=>G.nx (σ'.set i none) H2,rt:=G.rt,bk:=fun σ' H2=>G.bk (σ'.set i none) H2,ct:=fun σ' H2=>G.ct (σ'.set i none) H2 } (σ.set i (some (.ref a))) (upd H' a (excO a cls))) G σ H
theorem ps_try {X:Cx} {body suite:List Stmt} {b₀:Stmt} {x n:Str} {i:Nat} {np hpos pos:Pos} {D:Addr} {tb:St→XK→TS} {ts:TS} (hex:X.ex=[]) (hst:X.stack=X.env::X.outer) (hfr:X.env.frame=some X.env.locals)
  (hb:∀ pn σ₀ E,PSs (X.tryC pn σ₀ E) body (tb σ₀ E)) (hs:∀ v,PSs (X.hand v) (b₀::suite) ts) (hN:X.N.Nodup) (hi:X.N[i]?=some n) (hk:X.env.scope.names.lookup n=some .local) (hg:Gl X x) (hm:X.mg x=some (.ref D)) (hD:Named X.K D)
  (hd:(x == ("__debug__" : Str))=false:=by decide) (hf:X.fn n=true∨X.env.scope.names.lookup n=some .local:=by first | exact .inl rfl | exact .inr rfl | assumption) :
  PS X (.Try body [.ExceptHandler (some (.Name x np)) (some n) (b₀::suite) hpos] [] [] pos) (tTry X.K D i tb ts):=by
 intro pins s σ H G I h
 refine wpAny_Try_except (wpAny_mono (hb pins σ _ [] s σ H G I.toTry h) (fun f s1 z=>?_) fun e s1 z=>?_)
 ·cases f with
  | next=>
   obtain ⟨σ',H',J,q⟩:=z
   exact q0f (X:=X) pins s1 σ' H' G (J.ofTry I.ok) q
  | brk=>
   obtain ⟨σ',H',J,q⟩:=z
   exact ⟨σ',H',J.ofTry I.ok,q⟩
  | cont=>
   obtain ⟨σ',H',J,q⟩:=z
   exact ⟨σ',H',J.ofTry I.ok,q⟩
  | ret u=>
   obtain ⟨v,σ',H',J,r,q⟩:=z
   exact ⟨v,σ',H',J.ofTry I.ok,r,q⟩
 ·obtain ⟨H1,s2,J0,a,cls,H',rfl,f,C,rfl,hsub,hq⟩:=z
  have J:Inv X pins σ H1 s2:=J0.ofPin I.ok
  have hfrm:=I.ok.frames
  rw [hst] at hfrm f
  refine catch_note hfrm hfr f fun s3 f3=>?_
  have f3':=f3
  rw [← hst] at f3'
  have I3:=Fly.inv J hex f3'
  refine wpAny_handleBy_cons (codeAny_handlers_test (q4t (I3.hand (.ref a)) hg hm (exc_hit I3.kIn hD f3.exc hsub ?_) hd)) (by intro q;cases q)
  refine codeAny_handlers_suite_as (z04 f3 fun s4 f4=>?_)
  have f4':=f4
  rw [← hst] at f4'
  refine q58 (v:=.ref a) (Fly.inv J hex f4') hN hi (.inl hk) rfl (fun s5 I5=>?_) hf
  refine wpAny_mono (hs (.ref a) pins s5 _ _ _ (I5.hand (.ref a)) (hq a f3.fresh)) (fun fl s6 z=>?_) fun _ _ z=>z.elim
  have go:∀ {σ':St} {H2:Hp} {Q:Unit→Shared→Prop},Inv (X.hand (.ref a)) pins σ' H2 s6→(∀ s7,Inv X pins (σ'.set i none) H2 s7→Q () s7)→wpAny (model X.prog X.w) X.A (do bindName X.env n .none;unbindBehindTheSuite X.env n hpos) Q X.xe s6:=
   fun J6 k=>gone_ok (J6.unhand I.ok) hN hi hk k
  cases fl with
  | next=>
   obtain ⟨σ',H2,J6,q⟩:=z
   exact go J6 fun s7 J7=>⟨_,H2,J7,q⟩
  | brk=>
   obtain ⟨σ',H2,J6,q⟩:=z
   exact go J6 fun s7 J7=>⟨_,H2,J7,q⟩
  | cont=>
   obtain ⟨σ',H2,J6,q⟩:=z
   exact go J6 fun s7 J7=>⟨_,H2,J7,q⟩
  | ret u=>
   obtain ⟨v,σ',H2,J6,r,q⟩:=z
   exact go J6 fun s7 J7=>⟨v,_,H2,J7,r,q⟩
section
variable {X:Cx} {CX:CXT} {k:Nat} {f C:Addr} {fd:FuncData} {ps:List Str} {sp:Sp} {dvs:List V} {ds:List Value} {E:XK} {x:Str} {p pos:Pos} {e:Expr} {es:List Expr} {t:TA} {σ₀:St}
def tAt (σ₀:St) (t:TE):TE:=fun σ H Q=>σ=σ₀∧t σ H Q
theorem run_fnAt {pins:List (Addr × Obj)} {H:Hp} {s:Shared} {Q:VK} {us:List Value} {vs:List V} (F:FnOk X.prog X.w X.K X.mg X.base CX k f fd ps sp) (hr:Room k X.A) (hb:Binds X.K fd ps ds) (hd:Vals dvs ds) (hx:q7b CX X σ₀ E)
  (I:Inv X pins σ₀ H s) (r:Vals vs us) (h:sp (vs++dvs) H Q E):wpAny (model X.prog X.w) X.A (call (.ref f) us) (EP X pins σ₀ Q) X.xe s:=by
 have r2:Vals (vs++dvs) (us++ds):=r.append hd
 have hl:(us++ds).length=ps.length:=by rw [← r2.length];exact F.len _ _ _ _ h
 refine wpAny_call (codeAny_mono (F.run X.A X.stack s H ⟨us,[]⟩ (us++ds) (vs++dvs) Q E hr I.env0 (hb s us I.kIn hl) r2 h) fun r s' hq=>?_)
 cases r with
 | error e=>exact hx pins H s e s' I hq
 | ok fl=>
  cases fl with
  | ret u=>exact I.after hq
  | next=>exact False.elim hq
  | brk=>exact False.elim hq
  | cont=>exact False.elim hq
theorem q4j (F:FnOk X.prog X.w X.K X.mg X.base CX k f fd ps sp) (hr:Room k X.A) (hg:Gl X x) (hm:X.mg x=some (.ref f)) (hk:W.keepIn X.K (.ref f)=true) (hb:Binds X.K fd ps ds) (hd:Vals dvs ds) (hx:q7b CX X σ₀ E)
  (ha:PA X (e::es) t) (hdb:(x == ("__debug__" : Str))=false:=by decide) (he:starEach (e::es) X.env=(false,eval e X.env)::starEach es X.env:=by rfl) (hpl:(backTo pos (starEach es X.env)).any (·.1)=false:=by rfl) :
  PE X (.Call (.Name x p) (e::es) [] pos) (tAt σ₀ (tCall sp dvs E t)):=by
 rintro pins s σ H Q I ⟨rfl,h⟩
 refine wpAny_Call_Name_kw (q4t I hg hm ?_ hdb)
 refine W.callWith_K (h₀:=X.base) I.ok.mod.kin hk (thn (ha pos pins s σ H _ I h) fun us s1 ⟨vs,H1,I1,r,q⟩=>⟨I1.kIn,?_⟩) he hpl
 exact run_fnAt F hr hb hd hx I1 r q
end
inductive Den (K:W.Frag) (H:Hp):V→PyData→Prop
 | non:Den K H .non .none
 | bl (b:Bool):Den K H (.bl b) (.bool b)
 | int (i:Int):Den K H (.int i) (.int i)
 | str (x:Str):Den K H (.str x) (.str x)
 | lst {a:Addr} {xs:List V} {ds:List PyData} (h:SqL K H a xs) (hl:xs.length=ds.length) (r:∀ (i:Nat) x d,xs[i]?=some x→ds[i]?=some d→Den K H x d):Den K H (.ref a) (.list ds)
 | tup {a:Addr} {xs:List V} {ds:List PyData} (h:SqT K H a xs) (hl:xs.length=ds.length) (r:∀ (i:Nat) x d,xs[i]?=some x→ds[i]?=some d→Den K H x d):Den K H (.ref a) (.tuple ds)
theorem q44 {h:Heap}:∀ {us:List Value} {ds:List PyData},us.length=ds.length→(∀ (i:Nat) u d,us[i]?=some u→ds[i]?=some d→∃ as,Reads h u d as)→∃ as,ReadsAll h us ds as
 | [],[],_,_=>⟨_,.nil⟩
 | [],_::_,e,_=>by simp at e
 | _::_,[],e,_=>by simp at e
 | u::us,d::ds,e,k=>by
  obtain ⟨as,r⟩:=k 0 u d rfl rfl
  obtain ⟨bs,q⟩:=q44 (us:=us) (ds:=ds) (by simpa using e) fun i v c h1 h2=>k (i+1) v c (by simpa using h1) (by simpa using h2)
  exact ⟨_,.cons r q⟩
theorem Den.reads {X:Cx} {pins:List (Addr × Obj)} {σ:St} {H:Hp} {s:Shared} (I:Inv X pins σ H s) {x:V} {d:PyData} (D:Den X.K H x d):∀ {u:Value},RelV x u→∃ as,Reads s.heap u d as:=by
 induction D with
 | non=>intro u r;cases (show u=Value.none from r);exact ⟨_,.none⟩
 | bl b=>intro u r;cases (show u=Value.bool b from r);exact ⟨_,.bool b⟩
 | int i=>intro u r;obtain ⟨t,q⟩:=(show ∃ t,u=Value.int i t from r);cases q;exact ⟨_,.int i t⟩
 | str y=>intro u r;obtain ⟨t,q⟩:=(show ∃ t,u=Value.str y t from r);cases q;exact ⟨_,.str y t⟩
 | @lst a xs ds h hl r ih=>
  intro u ru
  cases (show u=Value.ref a from ru)
  obtain ⟨its,hv,pl,_⟩:=I.list h
  have hlen:=hv.length
  obtain ⟨as,q⟩:=q44 (h:=s.heap) (us:=its) (ds:=ds) (by omega) fun i v d h1 h2=>by
   have hx:i < xs.length:=by have:=(List.getElem?_eq_some_iff.mp h1).1;omega
   obtain ⟨v',e',rv⟩:=hv.get (List.getElem?_eq_getElem hx)
   rw [h1] at e'
   cases e'
   exact ih i _ d (List.getElem?_eq_getElem hx) h2 rv
  obtain ⟨o,ho,hc,n,hd⟩:=pl.isList
  exact ⟨_,.list ho hc hd (by simpa using q)⟩
 | @tup a xs ds h hl r ih=>
  intro u ru
  cases (show u=Value.ref a from ru)
  obtain ⟨its,hv,pl,_⟩:=I.tuple h
  have hlen:=hv.length
  obtain ⟨as,q⟩:=q44 (h:=s.heap) (us:=its) (ds:=ds) (by omega) fun i v d h1 h2=>by
   have hx:i < xs.length:=by have:=(List.getElem?_eq_some_iff.mp h1).1;omega
   obtain ⟨v',e',rv⟩:=hv.get (List.getElem?_eq_getElem hx)
   rw [h1] at e'
   cases e'
   exact ih i _ d (List.getElem?_eq_getElem hx) h2 rv
  obtain ⟨o,ho,hc,n,hd⟩:=pl
  exact ⟨_,.tuple ho hc hd (by simpa using q)⟩
inductive rDenI (K:W.Frag) (f:Bool→Bool) (x:V) (y:V) (H:Hp) (Q:VK):Prop
 | mk (d e:_):(Den K H x d)→(Den K H y e)→(SeqAt.shaped d=true)→(SeqAt.shaped e=true)→(Q (.bl (f (PyData.eqv d e))) H)→rDenI K f x y H Q
def rDen (K:W.Frag) (f:Bool→Bool):V→V→Hp→VK→Prop:=fun x y H Q=>rDenI K f x y H Q
theorem op_neD {X:Cx} (hu:X.A.units+64 < cLine):OpR X (compareOp .NotEq) (rDen X.K fun b=>!b):=by
 rintro pins s σ H x y v u Q I rx ry ⟨d,e,D1,D2,s1,s2,q⟩
 obtain ⟨as,r1⟩:=D1.reads I rx
 obtain ⟨bs,r2⟩:=D2.reads I ry
 exact ne_dataH r1 r2 s1 s2 hu ⟨.bl _,H,I,rfl,q⟩
def clsV:V→Option Value
 | .ty n=>some (.type n)
 | .ref a=>some (.ref a)
 | _=>none
theorem z1t {y:V} {c u:Value} (h:clsV y=some c) (r:RelV y u):u=c:=by
 cases y <;> first | (cases h;exact r) | cases h
structure ErrA (K:W.Frag) (C:Addr):Prop where
 ga:W.findIn K (.ref C) "__getattribute__" = some (some (.builtin "BaseException.__getattribute__"))
 gt:W.findIn K (.ref C) "__getattr__" = some none
 cls:(W.clsIn K C).isSome=true
 ca:W.findIn K (.ref C) "__class__" = some (some (.builtin "object.__class__"))
 cg:W.specialIn K (.builtin "object.__class__") "__get__" = some (some (.builtin "getset_descriptor.__get__"))
 ct:W.takesIn K (.builtin "object.__class__")=some true
 ob:W.mroIn K C (.type "object")=some true
 be:W.mroIn K C (.type "BaseException")=some true
theorem excP.inst {a C:Addr} {h:Heap} (p:excP a (.ref C) h):∃ ox,W.InstAt h a ox C none:=by
 obtain ⟨oe,vs,e,hc,hd,hf⟩:=p
 refine ⟨oe,e,hc,?_,?_⟩
 ·unfold W.notCls
  rw [hf]
 ·rw [hd]
  exact True.intro
theorem q7f:(Manifest.canonical "BaseException.__getattribute__" != "object.__getattribute__")=false:=by decide +kernel
theorem method_exc {K:W.Frag} {prog:Program} {w:World} {A:Around} {E:Value→Shared→Prop} {s:Shared} {a C f:Addr} {m:Str} {pl:Sem Bool} {Q:Value × List Value→Shared→Prop} (X:K.In s.heap) (p:excP a (.ref C) s.heap) (c:ErrA K C)
  (hf:W.findIn K (.ref C) m=some (some (.ref f))) (ht:W.typeIn K (.ref f)=some (.type "function")) (h:Q (.ref f,[.ref a]) s):wpAny (model prog w) A (getMethod (.ref a) m pl) Q E s:=by
 obtain ⟨ox,I⟩:=p.inst
 have hcan:=q7f
 unfold getMethod specialOf
 refine wpAny_bind (wpAny_bind (I.type.here ((W.looks_findIn X c.ga).here ?_)))
 dsimp only
 rw [hcan,if_neg (by decide)]
 refine wpAny_bind (wpAny_bind (I.type.here ((W.looks_findIn X c.gt).here ?_)))
 refine wpAny_bind (wpAny_bind (I.type.here ((W.looks_findIn X hf).here (wpAny_bind ((W.looks_typeIn X ht).here ?_)))))
 rw [if_neg (by decide +kernel)]
 refine wpAny_bind (wpAny_loadPart I.at_ ?_)
 have hd:=I.dict
 cases e:ox.dict with
 | none=>exact wpAny_bind (wpAny_rule (wpAny_pure h))
 | some dx=>
  rw [e] at hd
  exact hd.elim
section
variable {X:Cx} {CX:CXT} {k:Nat} {f C:Addr} {fd:FuncData} {ps:List Str} {sp:Sp} {dvs:List V} {ds:List Value} {E:XK} {m:Str} {pos apos:Pos} {o:Expr} {ta:TE}
def tMethE (C:Addr) (sp:Sp) (dvs:List V) (E:XK) (ta:TE):TE:=fun σ H Q=>ta σ H fun x H1=>∃ a,x=.ref a∧H1 a=some (excO a (.ref C))∧sp (x::dvs) H1 Q E
theorem q7z {pl:Sem Bool} (he:PE X o ta) (c:ErrA X.K C) (hf:W.findIn X.K (.ref C) m=some (some (.ref f))) (ht:W.isFn X.K (.ref f)=true) (hk:W.keepIn X.K (.ref f)=true) (F:FnOk X.prog X.w X.K X.mg X.base CX k f fd ps sp) (hr:Room k X.A) (hb:Binds X.K fd ps ds) (hd:Vals dvs ds)
  (hx:q65 CX X E)
  (hev:eval (.Call (.Attribute o m apos) [] [] pos) X.env=(do
   let ov ← eval o X.env
   standAt apos.atName
   let (f,first) ← holding [ov] (getMethod ov m pl)
   callWith pos f first (backTo pos (starEach [] X.env)) (backToKw pos (keywordEach [] X.env))):=by rfl) :
  PE X (.Call (.Attribute o m apos) [] [] pos) (tMethE C sp dvs E ta):=by
 intro pins s σ H Q I h
 refine W.methodCall_KW (pl:=pl) (thn (he pins s σ H _ I h) fun u s1 ⟨x,H1,I1,rx,a,ex,ea,q⟩=>?_) hev
 subst ex
 obtain rfl:u=Value.ref a:=rx
 refine method_exc I1.kIn (I1.exc ea) c hf (beq_iff_eq.mp ht) ?_
 exact W.callWith_K0 (first:=[.ref a]) I1.kIn hk (run_fn (us:=[.ref a]) (vs:=[.ref a]) F hr hb hd hx I1 (.cons rfl .nil) q)
end
theorem bga_kind:builtinKind "BaseException.__getattribute__" = some .slot:=by decide +kernel
theorem bga_split:splitId "BaseException.__getattribute__" = some ("BaseException", "__getattribute__"):=by decide +kernel
theorem bga_bind (self:Value):bindSpecial (.builtin "BaseException.__getattribute__") self=pure (.builtin "BaseException.__getattribute__",[self]):=PySem.F.excAttr_ValueError.ga.bind self
section
variable {K:W.Frag} {prog:Program} {w:World} {A:Around} {E:Value→Shared→Prop} {hh:Heap} {g:Array GenState} {d:Drawn} {t:Nat} {os:OsState} {a C:Addr} {tk:Tok}
theorem exc_check {M:Model} {nameV:Value} {Q:Unit→Shared→Prop} (X:K.In hh) (p:excP a (.ref C) hh) (c:ErrA K C) (hq:Q () ⟨hh,g,d,t,os⟩):wpAny M A (checkBuiltinCall "BaseException.__getattribute__" ⟨[.ref a,nameV],[]⟩) Q E ⟨hh,g,d,t,os⟩:=by
 obtain ⟨ox,I⟩:=p.inst
 have L0:=I.type (M:=M)
 have L4:W.Looks M hh (isSubtype (.ref C) (.type "BaseException")) true:=W.looks_mroIn X c.be
 have hk:=bga_kind
 have hsplit:=bga_split
 have ha:=F.args_bexc_ga (.ref a) nameV
 simp only [checkBuiltinCall,hk,hsplit]
 refine wpAny_bind ?_
 unfold isInstance
 repeat (first | with_reducible refine W.Looks.at L0 ?_ | with_reducible refine W.Looks.at L4 ?_ | wp_step)
 exact hq
theorem exc_entry {Q:Fin→Shared→Prop} (X:K.In hh) (p:excP a (.ref C) hh) (c:ErrA K C) (hq:Q (.done (.ret (.ref C))) ⟨hh,g,d,t,os⟩) :
  wpAny (model prog w) A (Builtin.«object.__getattribute__» ⟨[.ref a,.str "__class__" tk],[]⟩) Q E ⟨hh,g,d,t,os⟩:=by
 obtain ⟨ox,I⟩:=p.inst
 have hf:W.findObj K C none "__class__" = some (.bind (.builtin "getset_descriptor.__get__") (.builtin "object.__class__")):=by
  obtain ⟨cd,hc⟩:=Option.isSome_iff_exists.mp c.cls
  unfold W.findObj
  rw [hc,Option.bind_some,c.ca,Option.bind_some]
  simp [c.cg,c.ct]
 have L0:=I.type (M:=model prog w)
 have L3:=W.looks_find (M:=model prog w) X I hf
 repeat (first | with_reducible refine W.Looks.at L0 ?_ | with_reducible refine W.Looks.at L3 ?_ | wp_step)
 exact W.class_get X I c.ob (wpAny_pure hq)
theorem exc_call {R:Result→Shared→Prop} (X:K.In hh) (p:excP a (.ref C) hh) (c:ErrA K C) (hq:R (.ok (.ret (.ref C))) ⟨hh,g,d,t,os⟩) :
  codeAny (model prog w) A (.call (.builtin "BaseException.__getattribute__") ⟨[.ref a,.str "__class__" tk],[]⟩) R ⟨hh,g,d,t,os⟩:=
 codeAny_call_builtin PySem.F.excAttr_ValueError.ga.plain F.entry_bexc_ga (exc_check X p c (exc_entry X p c hq))
theorem exc_by {Q:Value→Shared→Prop} (X:K.In hh) (p:excP a (.ref C) hh) (c:ErrA K C) (hq:Q (.ref C) ⟨hh,g,d,t,os⟩):wpAny (model prog w) A (getAttrBy (.ref a) (.str "__class__" tk) false) Q E ⟨hh,g,d,t,os⟩:=by
 obtain ⟨ox,I⟩:=p.inst
 have L0:=I.type (M:=model prog w)
 have L1:=W.looks_findIn (M:=model prog w) X c.ga
 have L2:=W.looks_findIn (M:=model prog w) X c.gt
 have f3:=bga_bind (.ref a)
 have hx0:(false && onTheHeap (Value.builtin "BaseException.__getattribute__"))=false:=rfl
 have hx2:(Value.builtin "BaseException.__getattribute__" == Value.builtin "object.__getattribute__")=false:=by decide +kernel
 have hx1:(onTheHeap (Value.ref C) && Value.builtin "BaseException.__getattribute__" == Value.builtin "object.__getattribute__")=false:=by rw [hx2];rfl
 repeat (any_goals (first | assumption | with_reducible refine W.Looks.at L0 ?_ | with_reducible refine W.Looks.at L1 ?_ | with_reducible refine W.Looks.at L2 ?_ | wp_step))
 refine exc_call X p c ?_
 repeat (any_goals (first | assumption | wp_step))
end
theorem exc_class {K:W.Frag} {prog:Program} {w:World} {A:Around} {E:Value→Shared→Prop} {s:Shared} {a C:Addr} {Q:Option Value→Shared→Prop} (X:K.In s.heap) (p:excP a (.ref C) s.heap) (c:ErrA K C)
  (h:Q (some (.ref C)) { s with toks:=s.toks+1 }):wpAny (model prog w) A (getAttr? (.ref a) "__class__") Q E s:=by
 obtain ⟨hh,g,d,t,os⟩:=s
 unfold getAttr? getAttrBy?
 repeat (any_goals (first | assumption | with_reducible apply exc_by X p c | wp_step))
theorem z0z {K:W.Frag} {a C:Addr} (c:ErrA K C):W.KitX K (.ref a) (.ref C) (excP a (.ref C)) where
 ty:=fun _ _ _ p=>let ⟨_,I⟩:=p.inst;I.type
 it:=fun _ _ X _=>by
  have hcD:=c.cls
  unfold W.clsIn at hcD
  split at hcD
  ·rename_i c' d' cd' sl' ho
   intro A' Q' E' s' k q
   unfold isType loadHead
   exact wpAny_bind (wpAny_loadPart (k _ _ (X _ _ ho)) (wpAny_pure q))
  ·cases hcD
 ne:=fun h tp dd its n sl X htp=>by
  have hcD:=c.cls
  refine Bool.eq_false_iff.mpr fun q=>?_
  have e:C=tp:=Value.ref.inj (beq_iff_eq.mp q)
  subst e
  unfold W.clsIn at hcD
  split at hcD
  ·rename_i c' d' cd' sl' ho
   have z:=(X _ _ ho).symm.trans htp
   cases z
  ·cases hcD
 ca:=fun X p k=>exc_class X p c k
theorem q1j {X:Cx}:q2i X (.builtin "isinstance") (fun xs H Q=>∃ a C y c b,xs=[.ref a,y]∧clsV y=some c∧H a=some (excO a (.ref C))∧ErrA X.K C∧W.kitOne X.K (.ref C) c=some b∧Q (.bl b) H):=by
 rintro pins s σ H xs us Q I r ⟨a,C,y,c,b,rfl,hc,ea,er,hk,q⟩
 obtain ⟨u,w',rfl,r1,r2⟩:=vals2 r
 cases z1t hc r2
 cases (show u=Value.ref a from r1)
 exact W.kia_one (z0z er) I.kIn (I.exc ea) hk (fun z=>nomatch z) fun tk=>⟨.bl b,H,I.tok tk,rfl,q⟩
def PJ (X:Cx) (es:List Expr) (n:Nat):Prop:=
 ∀ (pins:List (Addr × Obj)) (s:Shared) (σ:St) (H:Hp) (out:Str) (Q:VK),Inv X pins σ H s→out.length+n≤sizeLine→(∀ z,Q (.str z) H)→wpAny (model X.prog X.w) X.A (joinParts out (evalEach es X.env)) (EP X pins σ Q) X.xe s
section
variable {X:Cx} {es:List Expr} {n:Nat} {pos:Pos}
theorem pj_nil:PJ X [] 0:=fun pins s σ H out Q I hn h=>joinParts_nil ⟨.str out,H,I.tok _,⟨_,rfl⟩,h out⟩ (by omega)
theorem pj_str {x:Str} {j:Nat} (h:PJ X es n):PJ X (.Constant (.str x) j pos::es) (x.length+n):=fun pins s σ H out Q I hn hq=>by
 show wpAny _ _ (joinParts out (eval (.Constant (.str x) j pos) X.env::evalEach es X.env)) _ _ _
 refine joinParts_cons (thn (q0x (X:=X) (x:=x) pins s σ H (fun v H'=>v=.str x∧H'=H) I ⟨rfl,rfl⟩) fun u s1 ⟨v,H1,I1,r,ev,eH⟩=>?_)
 subst ev
 subst eH
 obtain ⟨t,rfl⟩:=(show ∃ t,u=Value.str x t from r)
 have hl:(out++x).length=out.length+x.length:=strLen_append out x
 exact ⟨by rw [hl];omega,h pins s1 σ H1 _ Q I1 (by rw [hl];omega) hq⟩
theorem pj_int {e:Expr} {i:Int} {k:Nat} (he:PE X e (tC (.int i))) (hi:i.natAbs.log2 < 1920) (hk:(toString i:Str).length≤k) (h:PJ X es n):PJ X (.FormattedValue e (-1) none pos::es) (k+n):=fun pins s σ H out Q I hn hq=>by
 show wpAny _ _ (joinParts out (eval (.FormattedValue e (-1) none pos) X.env::evalEach es X.env)) _ _ _
 refine joinParts_cons (FormattedValue_plain (thn (he pins s σ H (fun v H'=>v=.int i∧H'=H) I ⟨rfl,rfl⟩) fun u s1 ⟨v,H1,I1,r,ev,eH⟩=>?_))
 subst ev
 subst eH
 obtain ⟨t,rfl⟩:=(show ∃ t,u=Value.int i t from r)
 refine formatField_int_small hi ?_
 have hl:(out++(toString i:Str)).length=out.length+(toString i:Str).length:=strLen_append out _
 exact ⟨by rw [hl];omega,h pins _ σ H1 _ Q (I1.tok _) (by rw [hl];omega) hq⟩
theorem pe_fstr {v1 v2:Expr} (h:PJ X (v1::v2::es) n) (hn:n≤sizeLine):PE X (.JoinedStr (v1::v2::es) pos) (fun _ H Q=>∀ z,Q (.str z) H):=fun pins s σ H Q I hq=>
 JoinedStr_many (h pins s σ H Str.empty Q I (by show 0+n≤_;omega) hq)
end
end L2
namespace L2
open PySem PySem.Spec PyProof.Rows XL
section
variable {prog:Program} {w:World} {A:Around} {R:Result→Shared→Prop} {s:Shared}
theorem q5w {elt target iter:Expr} {ifs:List Expr} {scope:Scope} {pos:Pos} {it acc:Value} {env:Env} (I:Nat→Shared→Prop)
  (turn:∀ n s,I n s→wpAny (model prog w) A (pyNext it) (fun r s₁=>match r with
   | none=>R (.ok .next) s₁
   | some v=>wpAny (model prog w) A (letOwnedTupleGo target it v) (fun _ s₁'=>wpAny (model prog w) A (assign target env v) (fun _ s₂=>
     wpAny (model prog w) A (forIn ifs true fun c r=>if r=true then do let ok ← isTrue c env (eval c env);pure (ForInStep.yield ok) else pure (ForInStep.yield r)) (fun ok s₃=>
      if ok=true then wpAny (model prog w) A (eval elt env) (fun x s₄=>
       wpAny (model prog w) A (call (.builtin "list.append") [acc,x]) (fun _ s₅=>∃ m,m < n∧I m s₅) (fun _ _=>False) s₄) (fun _ _=>False) s₃
      else ∃ m,m < n∧I m s₃) (fun _ _=>False) s₂) (fun _ _=>False) s₁') (fun _ _=>False) s₁) (fun _ _=>False) s)
  (n:Nat) (h:I n s):codeAny (model prog w) A (.compLoop (.ListComp elt [⟨target,iter,ifs,0⟩] scope pos) 0 it acc env) R s:=by
 refine codeAny_loop rfl I (fun n s hI=>?_) n h
 show wpAny _ A ((compTurn (.ListComp elt [⟨target,iter,ifs,0⟩] scope pos) 0 it acc env).onRaise (fun x=>do noteFrame x env;theTreesLotGoes x)) _ _ s
 refine wpAny_noted ?_
 rw [compTurn_list]
 refine wpAny_bind (wpAny_standAt (wpAny_bind (wpAny_mono (turn n s hI) (fun r s₁ h₁=>?_) fun _ _ h'=>h'.elim)))
 cases r with
 | none=>exact wpAny_pure h₁
 | some v=>
  refine wpAny_bind (wpAny_mono h₁ (fun _ s₁' h₁'=>?_) fun _ _ h'=>h'.elim)
  refine wpAny_bind (wpAny_mono h₁' (fun _ s₂ h₂=>wpAny_bind (wpAny_mono h₂ (fun ok s₃ h₃=>?_) fun _ _ h'=>h'.elim)) fun _ _ h'=>h'.elim)
  cases ok with
  | false=>exact wpAny_pure ⟨rfl,h₃⟩
  | true=>
   exact wpAny_bind (wpAny_bind (wpAny_mono h₃ (fun x s₄ h₄=>wpAny_bind (wpAny_mono h₄ (fun _ s₅ h₅=>wpAny_pure (wpAny_pure ⟨rfl,h₅⟩)) fun _ _ h'=>h'.elim)) fun _ _ h'=>h'.elim))
end
theorem q4p {scope:Scope} {env:Env} (h:∀ x,(x,NameKind.free)∈scope.names→∃ c,env.cells.lookup x=some c) :
  ∃ cl,closureFor scope env=pure cl∧(∀ x c,cl.lookup x=some c→env.cells.lookup x=some c)∧∀ x,(x,NameKind.free)∈scope.names→∃ c,cl.lookup x=some c:=by
 simp only [closureFor]
 suffices q:∀ (names:List (Str × NameKind)) (cs:List (Str × Addr)),(∀ x c,cs.lookup x=some c→env.cells.lookup x=some c)→(∀ x,(x,NameKind.free)∈names→∃ c,env.cells.lookup x=some c)→
   ∃ cl,(forIn names cs fun x r=>if (x.2 == NameKind.free)=true then do let a ← cellOf env x.1;pure (ForInStep.yield ((x.1,a)::r)) else pure (ForInStep.yield r))=(pure cl:Sem (List (Str × Addr)))∧
    (∀ x c,cl.lookup x=some c→env.cells.lookup x=some c)∧(∀ x,(x,NameKind.free)∈names→∃ c,cl.lookup x=some c)∧∀ x c,cs.lookup x=some c→∃ c',cl.lookup x=some c' by
  obtain ⟨cl,e,a,b,_⟩:=q scope.names [] (fun x c z=>by cases z) h
  refine ⟨cl,?_,a,b⟩
  show (forIn scope.names [] _ >>= fun r=>pure r)=_
  refine Eq.trans (congrArg (fun t=>t >>= fun r=>pure r) e) rfl
 intro names
 induction names with
 | nil=>exact fun cs hcs _=>⟨cs,rfl,hcs,fun x z=>(nomatch z),fun x c z=>⟨c,z⟩⟩
 | cons y r ih=>
  intro cs hcs hr
  obtain ⟨n,k⟩:=y
  rw [List.forIn_cons]
  by_cases hk:(k == NameKind.free)=true
  ·have hk':k=.free:=by simpa using hk
   subst hk'
   obtain ⟨c,hc⟩:=hr n List.mem_cons_self
   obtain ⟨cl,e,a,b,d⟩:=ih ((n,c)::cs) (fun x c' z=>by
    rw [List.lookup_cons] at z
    cases hx:x == n with
    | true => rw [hx] at z; cases z; have : x = n := by simpa using hx
              rw [this];exact hc
    | false=>rw [hx] at z;exact hcs x c' z) fun x z=>hr x (List.mem_cons_of_mem _ z)
   refine ⟨cl,?_,a,fun x z=>?_,fun x c' z=>?_⟩
   ·rw [← e]
    have:cellOf env n=pure c:=by unfold cellOf;rw [hc]
    rw [if_pos hk,this]
    rfl
   ·rcases List.mem_cons.mp z with z | z
    ·cases z
     exact d n c (by simp)
    ·exact b x z
   ·cases hx:x == n with
    | true=>exact d x c (by rw [List.lookup_cons,hx])
    | false=>exact d x c' (by rw [List.lookup_cons,hx];exact z)
  ·obtain ⟨cl,e,a,b,d⟩:=ih cs hcs fun x z=>hr x (List.mem_cons_of_mem _ z)
   refine ⟨cl,?_,a,fun x z=>?_,d⟩
   ·rw [← e,if_neg hk]
    rfl
   ·rcases List.mem_cons.mp z with z | z
    ·cases z
     exact absurd rfl hk
    ·exact b x z
theorem q1p {env:Env}:∀ {names:List (Str × NameKind)} {x:Str},names.lookup x=some .free→
  (names.map fun (n,k)=>if (k == NameKind.free && env.scope.kind == .function && env.kindOf n == some .cell) then (n,NameKind.cell) else (n,k)).lookup x=some .cell∨
  (names.map fun (n,k)=>if (k == NameKind.free && env.scope.kind == .function && env.kindOf n == some .cell) then (n,NameKind.cell) else (n,k)).lookup x=some .free
 | [],_,h=>by simp at h
 | (n,k)::r,x,h=>by
  have ih:=@q1p env r x
  rw [List.map_cons]
  dsimp only
  cases hx:x == n with
  | true=>
   simp only [List.lookup_cons,hx] at h
   cases h
   by_cases hc:(NameKind.free == NameKind.free && env.scope.kind == .function && env.kindOf n == some .cell)=true
   ·rw [if_pos hc];left;simp [List.lookup_cons,hx]
   ·rw [if_neg hc];right;simp [List.lookup_cons,hx]
  | false=>
   simp only [List.lookup_cons,hx] at h
   by_cases hc:(k == NameKind.free && env.scope.kind == .function && env.kindOf n == some .cell)=true
   ·rw [if_pos hc];simp only [List.lookup_cons,hx];exact ih h
   ·rw [if_neg hc];simp only [List.lookup_cons,hx];exact ih h
theorem q24 {env:Env}:∀ {names:List (Str × NameKind)} {x:Str} {q:NameKind},(∀ y∈names,y.2≠.cell)→(q=.cell∨q=.free)→
  (names.map fun (n,k)=>if (k == NameKind.free && env.scope.kind == .function && env.kindOf n == some .cell) then (n,NameKind.cell) else (n,k)).lookup x=some q→(x,NameKind.free)∈names
 | [],_,_,_,_,h=>by simp at h
 | (n,k)::r,x,q,hn,hq,h=>by
  have ih:=@q24 env r x q (fun y hy=>hn y (List.mem_cons_of_mem _ hy)) hq
  rw [List.map_cons] at h
  dsimp only at h
  cases hx:x == n with
  | true=>
   have e:x=n:=by simpa using hx
   subst e
   by_cases hc:(k == NameKind.free && env.scope.kind == .function && env.kindOf x == some .cell)=true
   ·have:k=.free:=by
     cases k <;> first | rfl | (exfalso;revert hc;simp;done)
    subst this
    exact List.mem_cons_self
   ·rw [if_neg hc] at h
    simp only [List.lookup_cons,hx] at h
    cases h
    rcases hq with rfl | rfl
    ·exact absurd rfl (hn _ List.mem_cons_self)
    ·exact List.mem_cons_self
  | false=>
   by_cases hc:(k == NameKind.free && env.scope.kind == .function && env.kindOf n == some .cell)=true
   ·rw [if_pos hc] at h;simp only [List.lookup_cons,hx] at h;exact List.mem_cons_of_mem _ (ih h)
   ·rw [if_neg hc] at h;simp only [List.lookup_cons,hx] at h;exact List.mem_cons_of_mem _ (ih h)
def q1s (X:Cx) (own caps:List Str) (scope:Scope) (cl:List (Str × Addr)) (C:Addr) (fp:List Addr) (s₃:Shared) (H₃:Hp):Cx where
 prog:=X.prog
 w:=X.w
 K:=X.K
 mg:=X.mg
 base:=X.base
 A:=X.A
 N:=own++caps
 s₀:=s₃
 H₀:=H₃
 env:=compEnvC scope cl C X.env
 outer:=X.stack
 stack:=X.stack
 ex:=fp
 fn:=fun _=>false
 calm:=X.calm
 pn:=[]
 xe:=fun _ _=>False
def capv (n:Nat) (cs:List Nat) (σ:St):St:=List.replicate n none++cs.map fun i=>σ.getD i none
def PF (X:Cx) (ifs:List Expr) (t:TT):Prop:=
 ∀ (pins:List (Addr × Obj)) (s:Shared) (σ:St) (H:Hp) (Q:Bool→Hp→Prop),Inv X pins σ H s→t σ H Q→
  wpAny (model X.prog X.w) X.A (forIn ifs true fun c r=>if r=true then do let ok ← isTrue c X.env (eval c X.env);pure (ForInStep.yield ok) else pure (ForInStep.yield r)) (TP X pins σ Q) X.xe s
def tNoIf:TT:=fun _ H Q=>Q true H
theorem noIf {σ:St} {H:Hp} {A B:Bool→Hp→Prop} (h:A true H):tNoIf σ H (fun b H3=>if b=true then A b H3 else B b H3):=by
 show if true=true then A true H else B true H
 rw [if_pos rfl]
 exact h
theorem q3c {X:Cx}:PF X [] tNoIf:=fun pins s σ H Q I h=>wpAny_tests_nil ⟨H,I,h⟩
theorem pf_one {X:Cx} {c:Expr} {t:TT} (h:PT X c t):PF X [c] t:=fun pins s σ H Q I q=>wpAny_tests_one (h pins s σ H Q I q)
def z07 (J:It) (n:Nat) (cs:List Nat) (σ:St) (g:TG) (tc:TT) (te:TE) (Q:VK) (H1:Hp) (D:Addr):Prop:=∃ W:Nat→Nat→List V→Hp→Prop,(∃ m,W 0 m [] (upd H1 D (.lst [])))∧
 ∀ i m ys H,W i m ys H→(J.stop i H∧Q (.ref D) H)∨(J.go i H∧∀ x H',J.yld i H x H'→g x (capv n cs σ) H' fun σ2 H2=>σ2.drop n=cs.map (fun i=>σ.getD i none)∧
  tc σ2 H2 fun b H3=>if b=true then te σ2 H3 fun y H4=>H4 D=some (.lst ys)∧ys.length < sizeLine∧∃ m',m' < m∧W (i+1) m' (ys++[y]) (upd H4 D (.lst (ys++[y]))) else ∃ m',m' < m∧W (i+1) m' ys H3)
def tComp (n:Nat) (cs:List Nat) (wi:TI) (g:TG) (tc:TT) (te:TE):TE:=fun σ H Q=>wi σ H fun J H1=>∀ D,H1 D=none→z07 J n cs σ g tc te Q H1 D
structure CompSc (X:Cx) (sc:Scope) (own caps:List Str) (cs:List Nat) (scope:Scope):Prop where
 scp:X.env.scope=sc
 kind:scope.kind=.function
 nocell:∀ y∈scope.names,y.2≠.cell
 names:∀ y∈scope.names,y.2=.local→scope.names.lookup y.1=some .local
 free:∀ y∈scope.names,y.2=.free→sc.names.lookup y.1=some .cell
 capf:∀ x∈caps,scope.names.lookup x=some .free
 slots:cs.map (fun i=>X.N[i]?)=caps.map some
section
variable {X:Cx} {sc scope:Scope} {own caps:List Str} {cs:List Nat} {tg elt iter:Expr} {ifs:List Expr} {wi:TI} {g:TG} {tc:TT} {te:TE} {pos:Pos} {E:Value→Shared→Prop}
theorem q7v {pins:List (Addr × Obj)} {σ:St} {H:Hp} {s:Shared} {it:Addr} {fp:List Addr} {tn:Nat→Heap→Prop} {J:It} {cl:List (Str × Addr)} {RR:Value→Addr→Result→Shared→Prop} {Q:VK}
  (S:CompSc X sc own caps cs scope) (hc:X.calm=true) (hg:∀ C fp s₃ H₃,PG (q1s X own caps scope cl C fp s₃ H₃) tg g) (ht:∀ C fp s₃ H₃,PF (q1s X own caps scope cl C fp s₃ H₃) ifs tc)
  (he:∀ C fp s₃ H₃,PE (q1s X own caps scope cl C fp s₃ H₃) elt te)
  (cl1:∀ x c,cl.lookup x=some c→X.env.cells.lookup x=some c) (cl2:∀ x,(x,NameKind.free)∈scope.names→∃ c,cl.lookup x=some c)
  (I:Inv X pins σ H s) (T:Turn X.prog X.w X.K tg J fp it tn) (st:tn 0 s.heap) (f:∀ b∈fp,FpOk X pins H b)
  (h:∀ D,H D=none→z07 J own.length cs σ g tc te Q H D)
  (hRR:∀ D C s' H',Inv X pins σ H' s'→(∃ m,s'.heap.Ns C m)→FpOk X pins H' C→Q (.ref D) H'→RR (.ref D) C (.ok .next) s') :
  wpAny (model X.prog X.w) X.A (newList []) (fun acc s₃=>wpAny (model X.prog X.w) X.A (newFunctionEnv scope X.env.globals cl [] X.env.qual none .none (some X.env)) (fun cenv s₄=>
   codeAny (model X.prog X.w) X.A (.compStart (.ListComp elt [⟨tg,iter,ifs,0⟩] scope pos) 0 (.ref it) acc { cenv with scope:=relabel scope X.env }) (RR acc cenv.locals) s₄) E s₃) E s:=by
 refine wpAny_newObj_type (wpAny_newFunctionEnv S.nocell (by intro y hy;simp at hy) (fun h₁ hns₁ hsb₁=>?_) S.kind)
 dsimp only at hns₁ hsb₁ ⊢
 obtain ⟨W,⟨m0,w0⟩,turn⟩:=h s.heap.objs.size I.fresh
 have I3:Inv X pins σ (upd H s.heap.objs.size (.lst [])) { s with heap:=s.heap.push { cls:=.type "list",dict:=none,data:=.seq ([]:List Value).toArray } }:=
  I.lnew (its:=[]) (t':=s.toks) .nil (Nat.zero_le _)
 generalize hD:s.heap.objs.size=D at *
 generalize hH2:s.heap.push { cls:=.type "list",dict:=none,data:=.seq ([]:List Value).toArray }=h2 at hns₁ hsb₁ I3 ⊢
 generalize hH3:upd H D (.lst [])=H3 at I3 w0
 have h3n:∀ b,b≠D→H3 b=H b:=fun b hb=>by rw [← hH3,q08 hb]
 have kept:∀ b o,h2.get? b=some o→h₁.get? b=some o:=fun b o e=>hsb₁.extBut b o (Nat.ne_of_lt (Heap.lt_size e)) (Heap.get?_push_of_some _ e)
 have k0:∀ b o,s.heap.get? b=some o→h2.get? b=some o:=fun b o e=>by rw [← hH2];exact Heap.get?_push_of_some _ e
 have fpl:∀ b∈fp,b < s.heap.objs.size:=fun b hb=>by
  obtain ⟨o,e,_⟩:=T.obj 0 _ st b hb
  exact Heap.lt_size e
 have hszC:h2.objs.size=D+1:=by rw [← hH2,Heap.size_push,hD]
 generalize hCC:h2.objs.size=C at *
 have fpC:∀ b∈fp,b≠C∧b≠D:=fun b hb=>by
  have:=fpl b hb
  rw [hD] at this
  exact ⟨Nat.ne_of_lt (Nat.lt_of_lt_of_le this (by rw [hszC];exact Nat.le_succ _)),Nat.ne_of_lt this⟩
 have okY:(q1s X own caps scope cl C fp { s with heap:=h2 } H3).Ok:=by
  have J3:=I3.ok
  refine ⟨J3.mod,S.kind,J3.glob,J3.blt,(Nat.le_of_eq hCC),fun x y c a b=>J3.inj x y c (cl1 x c a) (cl1 y c b),fun x hx=>?_,fun x c z=>(by cases z),J3.hd,J3.frames,.inl rfl,fun b hb=>⟨(fpC b hb).1,fun x c e=>(f b hb).2.2.2.2.1 x c (cl1 x c e)⟩,
   fun b o e=>I3.bs b o e,(Nat.le_trans J3.bsz I3.sz),fun b o e hb=>?_,fun b hb z=>?_,I3.stack,I3.stkFree⟩
  ·refine cl2 x ?_
   rcases hx with hx | hx
   ·exact q24 S.nocell (.inl rfl) hx
   ·exact q24 S.nocell (.inr rfl) hx
  ·rcases (f b hb).2.2.2.1 with z | z
   ·exact J3.noex b o e z
   ·exact absurd (Nat.lt_of_lt_of_le (Heap.lt_size e) (Nat.le_trans J3.bsz z)) (Nat.lt_irrefl _)
  ·rcases List.mem_cons.mp (I3.stkSub b z) with z | z
   ·exact (f b hb).2.1 z
   ·exact (f b hb).2.2.1 z
 have slotN:∀ (i:Nat) (x:Str),(own++caps)[i]?=some x→own.length≤i→∃ j,cs[i - own.length]?=some j∧X.N[j]?=some x:=fun i x e hi=>by
  rw [List.getElem?_append_right hi] at e
  have z:=congrArg (fun l=>l[i - own.length]?) S.slots
  simp only [List.getElem?_map,e,Option.map_some] at z
  cases q:cs[i - own.length]? with
  | none=>rw [q] at z;cases z
  | some j=>rw [q] at z;exact ⟨j,rfl,Option.some.inj z⟩
 have csl:cs.length=caps.length:=by simpa using congrArg List.length S.slots
 have IY:Inv (q1s X own caps scope cl C fp { s with heap:=h2 } H3) [] (capv own.length cs σ) H3 { s with heap:=h₁,toks:=s.toks+([]:List (Str × Value)).length }:=by
  refine ⟨okY,rfl,I3.bare,Un.kept kept,⟨_,hns₁,fun i x v e1 e2 e3=>?_⟩,fun x c e=>?_,I3.hok.fresh (Nat.le_of_eq hCC),fun x c e=>I3.freeC x c (cl1 x c e),fun p hp=>absurd (show p∈([]:List (Addr × Obj)) from hp) (by simp),I3.hok.kept kept,?_⟩
  ·have hi:own.length≤i:=by
    refine Nat.le_of_not_lt fun z=>?_
    unfold capv at e2
    rw [List.getElem?_append_left (by simpa using z),List.getElem?_replicate,if_pos z] at e2
    cases e2
   obtain ⟨j,ej,en⟩:=slotN i x e1 hi
   unfold capv at e2
   rw [List.getElem?_append_right (by simpa using hi),List.length_replicate,List.getElem?_map,ej] at e2
   have e2':σ.getD j none=some v:=by simpa using e2
   have e2'':σ[j]?=some (some v):=by
    rw [List.getD_eq_getElem?_getD] at e2'
    cases q:σ[j]? with
    | none=>rw [q] at e2';cases e2'
    | some z=>rw [q] at e2';exact congrArg some e2'
   have hx:x∈caps:=by
    have e1':(own++caps)[i]?=some x:=e1
    rw [List.getElem?_append_right hi] at e1'
    exact List.mem_of_getElem? e1'
   have hf:=S.capf x hx
   have hcell:X.env.scope.names.lookup x=some .cell:=by
    rw [S.scp]
    exact S.free (x,.free) (PySem.mem_of_lookup hf) rfl
   obtain ⟨m,hn,hl⟩:=I3.loc
   obtain ⟨u,ru,lk⟩:=hl j x v en e2'' (.inr (.inl hcell))
   refine ⟨u,ru,.inr ⟨q1p hf,?_⟩⟩
   obtain ⟨c,hc'⟩:=cl2 x (PySem.mem_of_lookup hf)
   refine ⟨c,hc',?_⟩
   rcases lk with ⟨k,_⟩ | ⟨_,c',e',z⟩
   ·rw [show X.env.kindOf x=X.env.scope.names.lookup x from rfl,hcell] at k
    cases k
   ·rw [cl1 x c hc'] at e'
    cases e'
    obtain ⟨o,ho,hd⟩:=z
    exact ⟨o,kept _ _ ho,hd⟩
  ·obtain ⟨v,o,ho,hd⟩:=I3.cell x c (cl1 x c e)
   exact ⟨v,o,kept _ _ ho,hd⟩
  ·show (capv own.length cs σ).length=(own++caps).length
   unfold capv
   simp [csl]
 have stat:∀ {H':Hp},(∀ b∈fp,H' b=none)→∀ b∈fp,FpOk (q1s X own caps scope cl C fp { s with heap:=h2 } H3) [] H' b:=fun hn b hb=>
  ⟨hn b hb,(fpC b hb).1,okY.exfs b hb,.inl hb,fun x c e=>(f b hb).2.2.2.2.1 x c (cl1 x c e),fun p hp=>absurd (show p∈([]:List (Addr × Obj)) from hp) (by simp)⟩
 have hst₁:tn 0 h₁:=T.keep _ _ _ st fun b _ o e=>kept b o (k0 b o e)
 have loop:∀ s₃:Shared,s₃={ s with heap:=h₁,toks:=s.toks+([]:List (Str × Value)).length }→
   codeAny (model X.prog X.w) X.A (.compLoop (.ListComp elt [⟨tg,iter,ifs,0⟩] scope pos) 0 (.ref it) (.ref D) (compEnvC scope cl C X.env)) (RR (.ref D) C) s₃:=by
  rintro s₃ rfl
  refine q5w (fun n s'=>∃ i ys H',Inv (q1s X own caps scope cl C fp { s with heap:=h2 } H3) [] (capv own.length cs σ) H' s'∧tn i s'.heap∧(∀ b∈fp,H' b=none)∧W i n ys H') ?_ m0
   ⟨0,[],H3,IY,hst₁,fun b hb=>by rw [h3n b (fpC b hb).2];exact (f b hb).1,w0⟩
  rintro n s5 ⟨i,ys,H5,I5,st5,fr5,w5⟩
  rcases turn i n ys H5 w5 with ⟨stop,q⟩ | ⟨go,step⟩
  ·refine thn (T.done (q1s X own caps scope cl C fp { s with heap:=h2 } H3) rfl rfl rfl hc i [] s5 _ H5 _ I5 (stat fr5) st5 stop) fun r s6 ⟨hr,I6⟩=>?_
   subst hr
   have IX:Inv X pins σ H5 s6:=I3.call' (ch:=fp) I6.os I6.base I6.hok I6.bare fun b hb=>⟨(f b hb).2.2.2.1,(f b hb).2.1,(f b hb).2.2.2.2.1,(f b hb).2.2.2.2.2⟩
   obtain ⟨m6,hn6,_⟩:=I6.loc
   exact hRR D C s6 H5 IX ⟨m6,hn6⟩ (I3.fpOk (b:=C) (Nat.le_of_eq hCC) I6.free) q
  ·refine thn (T.item (q1s X own caps scope cl C fp { s with heap:=h2 } H3) rfl rfl rfl hc i [] s5 _ H5 _ I5 (stat fr5) st5 go) fun r s6 ⟨u,hr,h6⟩=>?_
   subst hr
   refine thn h6 fun _ s7 ⟨x,H7,I7,r7,y7,st7,fr7⟩=>?_
   have I7':=I7.pinned (stat fr7) (T.obj _ _ st7)
   refine thn (hg C fp _ _ _ s7 _ H7 x u _ I7' r7 (step x H7 y7)) fun _ s8 ⟨σ8,H8,I8,dr8,q8⟩=>?_
   have again:∀ {s':Shared} {H':Hp} {ys':List V},Inv (q1s X own caps scope cl C fp { s with heap:=h2 } H3) ([]++q6t fp s7.heap) σ8 H' s'→(∃ m',m' < n∧W (i+1) m' ys' H')→
     ∃ m,m < n∧∃ i ys H',Inv (q1s X own caps scope cl C fp { s with heap:=h2 } H3) [] (capv own.length cs σ) H' s'∧tn i s'.heap∧(∀ b∈fp,H' b=none)∧W i m ys H':=fun {s' H' ys'} I9 ⟨m',hm,w9⟩=>by
    have l8:σ8.length=own.length+cs.length:=by have:=I9.len;rw [this];show (own++caps).length=_;simp [csl]
    refine ⟨m',hm,i+1,ys',H',(I9.unpinned).weak (by unfold capv;simp [l8]) (fun j v ej=>?_),T.keep _ _ _ st7 fun b hb o e=>(I9.pin (b,o) (List.mem_append_right _ (List.mem_append_right _ (q29 hb e)))).1,fun b hb=>?_,w9⟩
    ·have hj:own.length≤j:=by
      refine Nat.le_of_not_lt fun z=>?_
      unfold capv at ej
      rw [List.getElem?_append_left (by simpa using z),List.getElem?_replicate,if_pos z] at ej
      cases ej
     unfold capv at ej
     rw [List.getElem?_append_right (by simpa using hj),List.length_replicate,← dr8,List.getElem?_drop] at ej
     rw [show own.length+(j - own.length)=j by omega] at ej
     exact ej
    ·obtain ⟨o,e,d⟩:=T.obj _ _ st7 b hb
     exact (I9.pin (b,o) (List.mem_append_right _ (List.mem_append_right _ (q29 hb e)))).2.1
   refine thn (ht C fp _ _ _ s8 σ8 H8 _ I8 q8) fun b s9 ⟨H9,I9,q9⟩=>?_
   cases b with
   | false=>
    rw [if_neg Bool.false_ne_true] at q9 ⊢
    exact again I9 q9
   | true=>
    rw [if_pos rfl] at q9 ⊢
    refine thn (he C fp _ _ _ s9 σ8 H9 _ I9 q9) fun xv s10 ⟨y,H10,I10,r10,hD10,hlen,q10⟩=>?_
    refine thn (q15 (X:=q1s X own caps scope cl C fp { s with heap:=h2 } H3) _ s10 σ8 H10 (.ref D) [y] (.ref D) [xv] (fun _ H'=>H'=upd H10 D (.lst (ys++[y]))) I10 rfl (.cons r10 .nil) ⟨D,ys,y,rfl,rfl,hD10,hlen,rfl⟩) fun _ s11 ⟨_,H11,I11,_,e11⟩=>?_
    subst e11
    exact again I11 q10
 exact codeAny_compStart_list (loop _ rfl) (T.self _ 0 _ _ _ hst₁ (loop _ rfl))
theorem hClos (S:CompSc X sc own caps cs scope) (ok:X.Ok):∀ x,(x,NameKind.free)∈scope.names→∃ c,X.env.cells.lookup x=some c:=fun x hx=>ok.has x (.inl (by
 show X.env.scope.names.lookup x=some .cell
 rw [S.scp]
 exact S.free (x,.free) hx rfl))
theorem q30 {g:List (Str × Addr)→Addr→List Addr→Shared→Hp→TG} {tc:List (Str × Addr)→Addr→List Addr→Shared→Hp→TT} {te:List (Str × Addr)→Addr→List Addr→Shared→Hp→TE} (S:CompSc X sc own caps cs scope) (hc:X.calm=true) (hi:PI X tg iter wi) (hg:∀ cl C fp s₃ H₃,PG (q1s X own caps scope cl C fp s₃ H₃) tg (g cl C fp s₃ H₃)) (ht:∀ cl C fp s₃ H₃,PF (q1s X own caps scope cl C fp s₃ H₃) ifs (tc cl C fp s₃ H₃))
  (he:∀ cl C fp s₃ H₃,PE (q1s X own caps scope cl C fp s₃ H₃) elt (te cl C fp s₃ H₃)) (hge:∀ cl C fp s₃ H₃,g cl C fp s₃ H₃=g [] 0 [] X.s₀ X.H₀:=by intros;rfl) (hte:∀ cl C fp s₃ H₃,tc cl C fp s₃ H₃=tc [] 0 [] X.s₀ X.H₀:=by intros;rfl)
  (hee:∀ cl C fp s₃ H₃,te cl C fp s₃ H₃=te [] 0 [] X.s₀ X.H₀:=by intros;rfl) (hs:∀ x,foldedSetIterable iter X.env x=pure x:=by intro _;rfl) :
  PE X (.ListComp elt [⟨tg,iter,ifs,0⟩] scope pos) (tComp own.length cs wi (g [] 0 [] X.s₀ X.H₀) (tc [] 0 [] X.s₀ X.H₀) (te [] 0 [] X.s₀ X.H₀)):=by
 intro pins s σ H Q I h
 obtain ⟨cl,hcl,cl1,cl2⟩:=q4p (hClos S I.ok)
 rw [eval_ListComp]
 refine wpAny_comprehension_free (use:=none) rfl hs hcl S.kind S.names (thn (hi pins s σ H _ I h) fun v s1 h1=>thn h1 fun itv s2 h2=>?_)
 obtain ⟨it,fp,tn,J,H2,rfl,I2,T,st2,f2,h2⟩:=h2
 refine q7v (RR:=fun acc C=>compPost (model X.prog X.w) X.A X.xe none (EP X pins σ Q) acc C) S hc (fun C fp s₃ H₃=>hge cl C fp s₃ H₃ ▸ hg cl C fp s₃ H₃) (fun C fp s₃ H₃=>hte cl C fp s₃ H₃ ▸ ht cl C fp s₃ H₃) (fun C fp s₃ H₃=>hee cl C fp s₃ H₃ ▸ he cl C fp s₃ H₃) cl1 cl2 I2 T st2 f2 h2 ?_
 intro D C s' H' I' hm hf q
 obtain ⟨m,hn⟩:=hm
 obtain ⟨f0,f1,f2,f3,f4,f5⟩:=hf
 exact ⟨m,hn,fun h' hs'=>⟨.ref D,H',I'.turned (t':=s'.toks) (it:=C) (fun b o hb e=>(hs'.2 b hb).trans e) f0 f1 f3 f4 f5,rfl,q⟩⟩
theorem z0c {g:List (Str × Addr)→Addr→List Addr→Shared→Hp→TG} {tc:List (Str × Addr)→Addr→List Addr→Shared→Hp→TT} {te:List (Str × Addr)→Addr→List Addr→Shared→Hp→TE} {i:Nat} {y:Str} {py spos:Pos} (S:CompSc X sc own caps cs scope) (hc:X.calm=true) (hN:X.N.Nodup) (hyi:X.N[i]?=some y) (hy:X.env.scope.names.lookup y=some .local)
  (hsw:swapsWith (.ListComp elt [⟨tg,iter,ifs,0⟩] scope pos) (some (.Name y py)) spos.line X.env=pure true)
  (hi:PI X tg iter wi) (hg:∀ cl C fp s₃ H₃,PG (q1s X own caps scope cl C fp s₃ H₃) tg (g cl C fp s₃ H₃)) (ht:∀ cl C fp s₃ H₃,PF (q1s X own caps scope cl C fp s₃ H₃) ifs (tc cl C fp s₃ H₃))
  (he:∀ cl C fp s₃ H₃,PE (q1s X own caps scope cl C fp s₃ H₃) elt (te cl C fp s₃ H₃)) (hge:∀ cl C fp s₃ H₃,g cl C fp s₃ H₃=g [] 0 [] X.s₀ X.H₀:=by intros;rfl) (hte:∀ cl C fp s₃ H₃,tc cl C fp s₃ H₃=tc [] 0 [] X.s₀ X.H₀:=by intros;rfl)
  (hee:∀ cl C fp s₃ H₃,te cl C fp s₃ H₃=te [] 0 [] X.s₀ X.H₀:=by intros;rfl) (hs:∀ x,foldedSetIterable iter X.env x=pure x:=by intro _;rfl) :
  PS X (.Assign [.Name y py] (.ListComp elt [⟨tg,iter,ifs,0⟩] scope pos) spos) (tAsg (tComp own.length cs wi (g [] 0 [] X.s₀ X.H₀) (tc [] 0 [] X.s₀ X.H₀) (te [] 0 [] X.s₀ X.H₀)) (q7u i)):=by
 intro pins s σ H D I h
 obtain ⟨cl,hcl,cl1,cl2⟩:=q4p (hClos S I.ok)
 rw [exec_Assign_Name_used _ _ _ _ hsw]
 refine wpAny_bind (wpAny_standAt (wpAny_bind ?_))
 show wpAny _ X.A (do let _ ← comprehension (.ListComp elt [⟨tg,iter,ifs,0⟩] scope pos) scope X.env _ (newList []) false (eval iter X.env) (some (assign (.Name y py) X.env))) _ _ s
 refine wpAny_bind (wpAny_mono (wpAny_comprehension_free (use:=some (assign (.Name y py) X.env)) (Q:=fun _ s'=>SP X pins D .next s') rfl hs hcl S.kind S.names
  (thn (hi pins s σ H _ I h) fun v s1 h1=>thn h1 fun itv s2 h2=>?_)) (fun _ s' hq=>wpAny_pure (wpAny_pure hq)) fun _ _ e=>e)
 obtain ⟨it,fp,tn,J,H2,rfl,I2,T,st2,f2,h2⟩:=h2
 refine q7v (Q:=fun x H1=>q7u i x σ H1 D.nx) (RR:=fun acc C=>compPost (model X.prog X.w) X.A X.xe (some (assign (.Name y py) X.env)) (fun _ s'=>SP X pins D .next s') acc C) S hc (fun C fp s₃ H₃=>hge cl C fp s₃ H₃ ▸ hg cl C fp s₃ H₃) (fun C fp s₃ H₃=>hte cl C fp s₃ H₃ ▸ ht cl C fp s₃ H₃) (fun C fp s₃ H₃=>hee cl C fp s₃ H₃ ▸ he cl C fp s₃ H₃) cl1 cl2 I2 T st2 f2 h2 ?_
 intro Dl C s' H' I' hm hf q
 obtain ⟨m,hn⟩:=hm
 obtain ⟨f0,f1,f2,f3,f4,f5⟩:=hf
 show wpAny _ X.A (assign (.Name y py) X.env (.ref Dl)) _ _ _
 refine wpAny_assign_Name (q5r I' hN hyi (.inl hy) (v:=.ref Dl) rfl (fun s3 I3 ⟨a,sb,ha⟩=>?_) (.inr hy))
 have hCa:C≠a:=by
  rcases ha with rfl | ha
  ·exact f1
  ·exact Ne.symm (f4 _ _ ha)
 refine ⟨m,hn.sameBut sb hCa,fun h' hs'=>⟨_,H',I3.turned (t':=s3.toks) (it:=C) (fun b o hb e=>(hs'.2 b hb).trans e) f0 f1 f3 f4 f5,q⟩⟩
end
@[elab_as_elim] theorem len1 {α:Type} {C:List α→Prop} (h:∀ a,C [a]):∀ us:List α,us.length=1→C us
 | [a],_=>h a
@[elab_as_elim] theorem len2 {α:Type} {C:List α→Prop} (h:∀ a b,C [a,b]):∀ us:List α,us.length=2→C us
 | [a,b],_=>h a b
@[elab_as_elim] theorem len3 {α:Type} {C:List α→Prop} (h:∀ a b c,C [a,b,c]):∀ us:List α,us.length=3→C us
 | [a,b,c],_=>h a b c
@[elab_as_elim] theorem len4 {α:Type} {C:List α→Prop} (h:∀ a b c d,C [a,b,c,d]):∀ us:List α,us.length=4→C us
 | [a,b,c,d],_=>h a b c d
end L2
namespace L2
open PySem PySem.Spec PyProof.Rows XL
theorem cf_inj:∀ (names:List (Str × NameKind)) (n:Nat) (acc:List (Str × Addr)),(∀ x y c,acc.lookup x=some c→acc.lookup y=some c→x=y)→(∀ x c,acc.lookup x=some c→c < n)→
  ∀ x y c,(cellsFrom n names acc).lookup x=some c→(cellsFrom n names acc).lookup y=some c→x=y
 | [],_,_,h,_=>h
 | (z,k)::r,n,acc,h,hb=>by
  unfold cellsFrom
  split
  ·refine cf_inj r (n+1) ((z,n)::acc) (fun x y c hx hy=>?_) fun x c hx=>?_
   ·rw [List.lookup_cons] at hx hy
    cases ex:x == z <;> cases ey:y == z <;> rw [ex] at hx <;> rw [ey] at hy <;> dsimp only at hx hy
    ·exact h x y c hx hy
    ·cases hy;exact absurd (hb x _ hx) (Nat.lt_irrefl _)
    ·cases hx;exact absurd (hb y _ hy) (Nat.lt_irrefl _)
    ·rw [beq_iff_eq.mp ex,beq_iff_eq.mp ey]
   ·rw [List.lookup_cons] at hx
    cases ex:x == z <;> rw [ex] at hx <;> dsimp only at hx
    ·exact Nat.lt_succ_of_lt (hb x c hx)
    ·cases hx;exact Nat.lt_succ_self _
  ·exact cf_inj r n acc h hb
theorem q7t:∀ (names:List (Str × NameKind)) (n:Nat) (acc:List (Str × Addr)) (x:Str) (c:Addr),(cellsFrom n names acc).lookup x=some c→acc.lookup x=some c∨n≤c
 | [],_,_,_,_,h=>.inl h
 | (z,k)::r,n,acc,x,c,h=>by
  unfold cellsFrom at h
  split at h
  ·rcases q7t r _ _ x c h with h | h
   ·rw [List.lookup_cons] at h
    cases ex:x == z <;> rw [ex] at h <;> dsimp only at h
    ·exact .inl h
    ·cases h;exact .inr (Nat.le_refl _)
   ·exact .inr (Nat.le_of_succ_le h)
  ·exact q7t r _ _ x c h
theorem z0b:∀ (names:List (Str × NameKind)) (n:Nat) (acc:List (Str × Addr)) (x:Str),(∀ y∈names,y.2=.cell→y.1≠x)→(cellsFrom n names acc).lookup x=acc.lookup x
 | [],_,_,_,_=>rfl
 | (z,k)::r,n,acc,x,h=>by
  unfold cellsFrom
  split
  ·rename_i hk
   rw [z0b r _ _ x fun y hy=>h y (List.mem_cons_of_mem _ hy),List.lookup_cons]
   have:(x == z)=false:=by
    have:=h (z,k) List.mem_cons_self (by simpa using hk)
    simpa using Ne.symm this
   rw [this]
  ·exact z0b r _ _ x fun y hy=>h y (List.mem_cons_of_mem _ hy)
theorem cf_new:∀ (names:List (Str × NameKind)) (n n0:Nat) (acc:List (Str × Addr)) (x:Str),n0≤n→((∀ c,acc.lookup x=some c→n0≤c)∨names.lookup x=some .cell)→
  ∀ c,(cellsFrom n names acc).lookup x=some c→n0≤c
 | [],_,_,_,_,_,h,c,e=>h.elim (fun h=>h c e) fun h=>by simp at h
 | (z,k)::r,n,n0,acc,x,hn,h,c,e=>by
  unfold cellsFrom at e
  split at e
  ·rename_i hk
   refine cf_new r (n+1) n0 _ x (Nat.le_succ_of_le hn) ?_ c e
   cases ex:x == z
   ·rcases h with h | h
    ·exact .inl fun c' e'=>h c' (by rw [List.lookup_cons,ex] at e';exact e')
    ·exact .inr (by rw [List.lookup_cons,ex] at h;exact h)
   ·exact .inl fun c' e'=>by rw [List.lookup_cons,ex] at e';cases e';exact hn
  ·rename_i hk
   refine cf_new r n n0 _ x hn ?_ c e
   rcases h with h | h
   ·exact .inl h
   ·cases ex:x == z
    ·exact .inr (by rw [List.lookup_cons,ex] at h;exact h)
    ·rw [List.lookup_cons,ex] at h
     cases h
     exact absurd rfl hk
theorem z09:∀ (names:List (Str × NameKind)) (h:Heap) (acc:List (Str × Addr)),(∀ x c,acc.lookup x=some c→∃ v,h.IsCell c v)→
  ∀ x c,(cellsFrom h.objs.size names acc).lookup x=some c→∃ v,(pushCells h names).IsCell c v
 | [],_,_,h=>h
 | (z,k)::r,h,acc,hh=>by
  unfold cellsFrom pushCells
  split
  ·have:=z09 r (h.push { cls:=.type "cell",data:=.cell none }) ((z,h.objs.size)::acc) (fun x c e=>by
    rw [List.lookup_cons] at e
    cases ex:x == z <;> rw [ex] at e <;> dsimp only at e
    ·obtain ⟨v,q⟩:=hh x c e
     exact ⟨v,q.keeps fun b o e=>Heap.get?_push_of_some _ e⟩
    ·cases e
     exact ⟨none,_,Heap.get?_push_size _ rfl,rfl⟩)
   rwa [Heap.size_push] at this
  ·exact z09 r h acc hh
theorem q50 {M:Model} {A:Around} {E:Value→Shared→Prop} {s:Shared} {scope:Scope} {globals:Addr} {cl:List (Str × Addr)} {qual:Str} {out:Env} {Q:Env→Shared→Prop}
  (hQ:Q (newEnv scope s.heap.objs.size globals (cellsFrom (s.heap.objs.size+1) scope.names cl) qual none .none (some out) builtinsNs) { s with heap:=pushCells (s.heap.push { cls:=.type "dict",data:=.dict #[] }) scope.names }) :
  wpAny M A (newFunctionEnv scope globals cl [] qual none .none (some out)) Q E s:=by
 simp only [newFunctionEnv,Option.isSome_some,if_true]
 refine wpAny_bind (wpAny_alloc ?_)
 refine wpAny_bind (wpAny_layCells _ (fun name kind cells=>by cases hkc:kind == NameKind.cell <;> simp [hkc]) _ _ _ _ ?_)
 rw [show ({ s with heap:=s.heap.push { cls:=.type "dict",data:=.dict #[] } }:Shared).heap.objs.size=s.heap.objs.size+1 from Heap.size_push ..]
 rw [List.forIn_nil]
 exact wpAny_bind (wpAny_pure (wpAny_pure hQ))
theorem q37 {env:Env}:∀ {names:List (Str × NameKind)} {x:Str} {q:NameKind},(q=.cell∨q=.free)→
  (names.map fun (n,k)=>if (k == NameKind.free && env.scope.kind == .function && env.kindOf n == some .cell) then (n,NameKind.cell) else (n,k)).lookup x=some q→(x,NameKind.free)∈names∨(x,NameKind.cell)∈names
 | [],_,_,_,h=>by simp at h
 | (n,k)::r,x,q,hq,h=>by
  have ih:=@q37 env r x q hq
  have ih':(r.map fun (n,k)=>if (k == NameKind.free && env.scope.kind == .function && env.kindOf n == some .cell) then (n,NameKind.cell) else (n,k)).lookup x=some q→(x,NameKind.free)∈(n,k)::r∨(x,NameKind.cell)∈(n,k)::r:=
   fun h=>(ih h).imp (List.mem_cons_of_mem _) (List.mem_cons_of_mem _)
  rw [List.map_cons] at h
  dsimp only at h
  cases hx:x == n with
  | true=>
   have e:x=n:=by simpa using hx
   subst e
   by_cases hc:(k == NameKind.free && env.scope.kind == .function && env.kindOf x == some .cell)=true
   ·have:k=.free:=by
     cases k <;> first | rfl | (exfalso;revert hc;simp;done)
    subst this
    exact .inl List.mem_cons_self
   ·rw [if_neg hc] at h
    simp only [List.lookup_cons,hx] at h
    cases h
    rcases hq with rfl | rfl
    ·exact .inr List.mem_cons_self
    ·exact .inl List.mem_cons_self
  | false=>
   by_cases hc:(k == NameKind.free && env.scope.kind == .function && env.kindOf n == some .cell)=true
   ·rw [if_pos hc] at h;simp only [List.lookup_cons,hx] at h;exact ih' h
   ·rw [if_neg hc] at h;simp only [List.lookup_cons,hx] at h;exact ih' h
def q1o (X:Cx) (own caps:List Str) (scope:Scope) (cl:List (Str × Addr)) (C:Addr) (fp:List Addr) (s₃:Shared) (H₃:Hp):Cx:=
 { q1s X own caps scope cl C fp s₃ H₃ with fn:=fun x=>decide (scope.names.lookup x=some .cell) }
structure CompScN (X:Cx) (sc:Scope) (own caps:List Str) (cs:List Nat) (scope:Scope):Prop where
 scp:X.env.scope=sc
 kind:scope.kind=.function
 cells:∀ y∈scope.names,y.2=.cell→scope.names.lookup y.1=some .cell
 names:∀ y∈scope.names,y.2=.local→scope.names.lookup y.1=some .local
 free:∀ y∈scope.names,y.2=.free→sc.names.lookup y.1=some .cell
 capf:∀ x∈caps,scope.names.lookup x=some .free
 slots:cs.map (fun i=>X.N[i]?)=caps.map some
section
variable {X:Cx} {sc scope:Scope} {own caps:List Str} {cs:List Nat} {tg elt iter:Expr} {ifs:List Expr} {wi:TI} {g:TG} {tc:TT} {te:TE} {pos:Pos} {E:Value→Shared→Prop}
theorem comp_coreN {pins:List (Addr × Obj)} {σ:St} {H:Hp} {s:Shared} {it:Addr} {fp:List Addr} {tn:Nat→Heap→Prop} {J:It} {cl:List (Str × Addr)} {RR:Value→Addr→Result→Shared→Prop} {Q:VK}
  (S:CompScN X sc own caps cs scope) (hc:X.calm=true) (hg:∀ cl C fp s₃ H₃,PG (q1o X own caps scope cl C fp s₃ H₃) tg g) (ht:∀ cl C fp s₃ H₃,PF (q1o X own caps scope cl C fp s₃ H₃) ifs tc)
  (he:∀ cl C fp s₃ H₃,PE (q1o X own caps scope cl C fp s₃ H₃) elt te)
  (cl1:∀ x c,cl.lookup x=some c→X.env.cells.lookup x=some c) (cl2:∀ x,(x,NameKind.free)∈scope.names→∃ c,cl.lookup x=some c)
  (I:Inv X pins σ H s) (T:Turn X.prog X.w X.K tg J fp it tn) (st:tn 0 s.heap) (f:∀ b∈fp,FpOk X pins H b)
  (h:∀ D,H D=none→z07 J own.length cs σ g tc te Q H D)
  (hRR:∀ D C s' H',Inv X pins σ H' s'→(∃ m,s'.heap.Ns C m)→FpOk X pins H' C→Q (.ref D) H'→RR (.ref D) C (.ok .next) s') :
  wpAny (model X.prog X.w) X.A (newList []) (fun acc s₃=>wpAny (model X.prog X.w) X.A (newFunctionEnv scope X.env.globals cl [] X.env.qual none .none (some X.env)) (fun cenv s₄=>
   codeAny (model X.prog X.w) X.A (.compStart (.ListComp elt [⟨tg,iter,ifs,0⟩] scope pos) 0 (.ref it) acc { cenv with scope:=relabel scope X.env }) (RR acc cenv.locals) s₄) E s₃) E s:=by
 refine wpAny_newObj_type (q50 ?_)
 dsimp only
 obtain ⟨W,⟨m0,w0⟩,turn⟩:=h s.heap.objs.size I.fresh
 have I3:Inv X pins σ (upd H s.heap.objs.size (.lst [])) { s with heap:=s.heap.push { cls:=.type "list",dict:=none,data:=.seq ([]:List Value).toArray } }:=
  I.lnew (its:=[]) (t':=s.toks) .nil (Nat.zero_le _)
 generalize hD:s.heap.objs.size=D at *
 generalize hH2:s.heap.push { cls:=.type "list",dict:=none,data:=.seq ([]:List Value).toArray }=h2 at I3 ⊢
 generalize hH3:upd H D (.lst [])=H3 at I3 w0
 have h3n:∀ b,b≠D→H3 b=H b:=fun b hb=>by rw [← hH3,q08 hb]
 have kept:∀ b o,h2.get? b=some o→(pushCells (h2.push { cls:=.type "dict",data:=.dict #[] }) scope.names).get? b=some o:=fun b o e=>pushCells_keeps _ _ b o (Heap.get?_push_of_some _ e)
 have hns₁:(pushCells (h2.push { cls:=.type "dict",data:=.dict #[] }) scope.names).Ns h2.objs.size (fun _=>none):=(Heap.Ns.new h2 (.type "dict")).keeps (pushCells_keeps _ _)
 have hcl₁:∀ x c,(cellsFrom (h2.objs.size+1) scope.names cl).lookup x=some c→∃ v,(pushCells (h2.push { cls:=.type "dict",data:=.dict #[] }) scope.names).IsCell c v:=by
  have:=z09 scope.names (h2.push { cls:=.type "dict",data:=.dict #[] }) cl fun x c e=>by
   obtain ⟨v,q⟩:=I3.cell x c (cl1 x c e)
   exact ⟨v,q.keeps fun b o e=>Heap.get?_push_of_some _ e⟩
  rwa [Heap.size_push] at this
 have hclB:∀ x c,cl.lookup x=some c→c < h2.objs.size+1:=fun x c e=>by
  obtain ⟨v,q⟩:=I3.cell x c (cl1 x c e)
  exact Nat.lt_succ_of_lt q.lt
 generalize hH1:pushCells (h2.push { cls:=.type "dict",data:=.dict #[] }) scope.names=h₁ at kept hns₁ hcl₁ ⊢
 have k0:∀ b o,s.heap.get? b=some o→h2.get? b=some o:=fun b o e=>by rw [← hH2];exact Heap.get?_push_of_some _ e
 have fpl:∀ b∈fp,b < s.heap.objs.size:=fun b hb=>by
  obtain ⟨o,e,_⟩:=T.obj 0 _ st b hb
  exact Heap.lt_size e
 have hszC:h2.objs.size=D+1:=by rw [← hH2,Heap.size_push,hD]
 generalize hCC:h2.objs.size=C at *
 have clC:∀ x c,(cellsFrom (C+1) scope.names cl).lookup x=some c→cl.lookup x=some c∨C+1≤c:=q7t scope.names (C+1) cl
 have clI:=cf_inj scope.names (C+1) cl (fun x y c a b=>I3.ok.inj x y c (cl1 x c a) (cl1 y c b)) hclB
 have clN:∀ x,scope.names.lookup x=some .cell→∀ c,(cellsFrom (C+1) scope.names cl).lookup x=some c→C+1≤c:=fun x hx=>cf_new scope.names (C+1) (C+1) cl x (Nat.le_refl _) (.inr hx)
 have clS:∀ x,((x,NameKind.free)∈scope.names∨(x,NameKind.cell)∈scope.names)→∃ c,(cellsFrom (C+1) scope.names cl).lookup x=some c:=fun x hx=>Option.isSome_iff_exists.mp (PySem.W.cellsFrom_some scope.names _ _ (by
  rcases hx with hx | hx
  ·exact .inr (Option.isSome_iff_exists.mpr (cl2 x hx))
  ·exact .inl (S.cells (x,.cell) hx rfl)))
 have clK:∀ x,scope.names.lookup x=some .free→(cellsFrom (C+1) scope.names cl).lookup x=cl.lookup x:=fun x hx=>z0b scope.names (C+1) cl x fun y hy hk e=>by
  have:=S.cells y hy hk
  rw [e,hx] at this
  cases this
 generalize hCL:cellsFrom (C+1) scope.names cl=cl' at clC clI clN clS clK hcl₁ ⊢
 have fpC:∀ b∈fp,b≠C∧b≠D:=fun b hb=>by
  have:=fpl b hb
  rw [hD] at this
  exact ⟨Nat.ne_of_lt (Nat.lt_of_lt_of_le this (by rw [hszC];exact Nat.le_succ _)),Nat.ne_of_lt this⟩
 have fpX:∀ b∈fp,∀ x c,cl'.lookup x=some c→c≠b:=fun b hb x c e=>(clC x c e).elim (fun e=>(f b hb).2.2.2.2.1 x c (cl1 x c e)) fun z w=>by
  have h1:=fpl b hb
  rw [hD] at h1
  have h2:C+1≤b:=w ▸ z
  exact absurd (Nat.lt_of_lt_of_le h1 (Nat.le_trans (Nat.le_succ D) (Nat.le_trans (Nat.le_of_eq hszC.symm) (Nat.le_of_succ_le h2)))) (Nat.lt_irrefl _)
 have okY:(q1o X own caps scope cl' C fp { s with heap:=h2 } H3).Ok:=by
  have J3:=I3.ok
  refine ⟨J3.mod,S.kind,J3.glob,J3.blt,(Nat.le_of_eq hCC),clI,fun x hx=>?_,fun x c z e=>(Nat.le_trans (Nat.le_of_eq hCC) (Nat.le_of_succ_le (clN x (of_decide_eq_true z) c e))),J3.hd,J3.frames,.inl rfl,fun b hb=>⟨(fpC b hb).1,fun x c e=>fpX b hb x c e⟩,
   fun b o e=>I3.bs b o e,(Nat.le_trans J3.bsz I3.sz),fun b o e hb=>?_,fun b hb z=>?_,I3.stack,I3.stkFree⟩
  ·refine clS x ?_
   rcases hx with hx | hx
   ·exact q37 (.inl rfl) hx
   ·exact q37 (.inr rfl) hx
  ·rcases (f b hb).2.2.2.1 with z | z
   ·exact J3.noex b o e z
   ·exact absurd (Nat.lt_of_lt_of_le (Heap.lt_size e) (Nat.le_trans J3.bsz z)) (Nat.lt_irrefl _)
  ·rcases List.mem_cons.mp (I3.stkSub b z) with z | z
   ·exact (f b hb).2.1 z
   ·exact (f b hb).2.2.1 z
 have slotN:∀ (i:Nat) (x:Str),(own++caps)[i]?=some x→own.length≤i→∃ j,cs[i - own.length]?=some j∧X.N[j]?=some x:=fun i x e hi=>by
  rw [List.getElem?_append_right hi] at e
  have z:=congrArg (fun l=>l[i - own.length]?) S.slots
  simp only [List.getElem?_map,e,Option.map_some] at z
  cases q:cs[i - own.length]? with
  | none=>rw [q] at z;cases z
  | some j=>rw [q] at z;exact ⟨j,rfl,Option.some.inj z⟩
 have csl:cs.length=caps.length:=by simpa using congrArg List.length S.slots
 have IY:Inv (q1o X own caps scope cl' C fp { s with heap:=h2 } H3) [] (capv own.length cs σ) H3 { s with heap:=h₁,toks:=s.toks }:=by
  refine ⟨okY,rfl,I3.bare,Un.kept kept,⟨_,hns₁,fun i x v e1 e2 e3=>?_⟩,fun x c e=>?_,I3.hok.fresh (Nat.le_of_eq hCC),fun x c e=>(clC x c e).elim (fun e=>I3.freeC x c (cl1 x c e)) (fun z=>I3.hok.fresh (Nat.le_trans (Nat.le_of_eq hCC) (Nat.le_of_succ_le z))),fun p hp=>absurd (show p∈([]:List (Addr × Obj)) from hp) (by simp),I3.hok.kept kept,?_⟩
  ·have hi:own.length≤i:=by
    refine Nat.le_of_not_lt fun z=>?_
    unfold capv at e2
    rw [List.getElem?_append_left (by simpa using z),List.getElem?_replicate,if_pos z] at e2
    cases e2
   obtain ⟨j,ej,en⟩:=slotN i x e1 hi
   unfold capv at e2
   rw [List.getElem?_append_right (by simpa using hi),List.length_replicate,List.getElem?_map,ej] at e2
   have e2':σ.getD j none=some v:=by simpa using e2
   have e2'':σ[j]?=some (some v):=by
    rw [List.getD_eq_getElem?_getD] at e2'
    cases q:σ[j]? with
    | none=>rw [q] at e2';cases e2'
    | some z=>rw [q] at e2';exact congrArg some e2'
   have hx:x∈caps:=by
    have e1':(own++caps)[i]?=some x:=e1
    rw [List.getElem?_append_right hi] at e1'
    exact List.mem_of_getElem? e1'
   have hf:=S.capf x hx
   have hcell:X.env.scope.names.lookup x=some .cell:=by
    rw [S.scp]
    exact S.free (x,.free) (PySem.mem_of_lookup hf) rfl
   obtain ⟨m,hn,hl⟩:=I3.loc
   obtain ⟨u,ru,lk⟩:=hl j x v en e2'' (.inr (.inl hcell))
   refine ⟨u,ru,.inr ⟨q1p hf,?_⟩⟩
   obtain ⟨c,hc'⟩:=cl2 x (PySem.mem_of_lookup hf)
   refine ⟨c,(clK x hf).trans hc',?_⟩
   rcases lk with ⟨k,_⟩ | ⟨_,c',e',z⟩
   ·rw [show X.env.kindOf x=X.env.scope.names.lookup x from rfl,hcell] at k
    cases k
   ·rw [cl1 x c hc'] at e'
    cases e'
    obtain ⟨o,ho,hd⟩:=z
    exact ⟨o,kept _ _ ho,hd⟩
  ·exact hcl₁ x c e
  ·show (capv own.length cs σ).length=(own++caps).length
   unfold capv
   simp [csl]
 have stat:∀ {H':Hp},(∀ b∈fp,H' b=none)→∀ b∈fp,FpOk (q1o X own caps scope cl' C fp { s with heap:=h2 } H3) [] H' b:=fun hn b hb=>
  ⟨hn b hb,(fpC b hb).1,okY.exfs b hb,.inl hb,fun x c e=>fpX b hb x c e,fun p hp=>absurd (show p∈([]:List (Addr × Obj)) from hp) (by simp)⟩
 have hst₁:tn 0 h₁:=T.keep _ _ _ st fun b _ o e=>kept b o (k0 b o e)
 have loop:∀ s₃:Shared,s₃={ s with heap:=h₁,toks:=s.toks }→
   codeAny (model X.prog X.w) X.A (.compLoop (.ListComp elt [⟨tg,iter,ifs,0⟩] scope pos) 0 (.ref it) (.ref D) (compEnvC scope cl' C X.env)) (RR (.ref D) C) s₃:=by
  rintro s₃ rfl
  refine q5w (fun n s'=>∃ i ys H',Inv (q1o X own caps scope cl' C fp { s with heap:=h2 } H3) [] (capv own.length cs σ) H' s'∧tn i s'.heap∧(∀ b∈fp,H' b=none)∧W i n ys H') ?_ m0
   ⟨0,[],H3,IY,hst₁,fun b hb=>by rw [h3n b (fpC b hb).2];exact (f b hb).1,w0⟩
  rintro n s5 ⟨i,ys,H5,I5,st5,fr5,w5⟩
  rcases turn i n ys H5 w5 with ⟨stop,q⟩ | ⟨go,step⟩
  ·refine thn (T.done (q1o X own caps scope cl' C fp { s with heap:=h2 } H3) rfl rfl rfl hc i [] s5 _ H5 _ I5 (stat fr5) st5 stop) fun r s6 ⟨hr,I6⟩=>?_
   subst hr
   have IX:Inv X pins σ H5 s6:=I3.call' (ch:=fp) I6.os I6.base I6.hok I6.bare fun b hb=>⟨(f b hb).2.2.2.1,(f b hb).2.1,(f b hb).2.2.2.2.1,(f b hb).2.2.2.2.2⟩
   obtain ⟨m6,hn6,_⟩:=I6.loc
   exact hRR D C s6 H5 IX ⟨m6,hn6⟩ (I3.fpOk (b:=C) (Nat.le_of_eq hCC) I6.free) q
  ·refine thn (T.item (q1o X own caps scope cl' C fp { s with heap:=h2 } H3) rfl rfl rfl hc i [] s5 _ H5 _ I5 (stat fr5) st5 go) fun r s6 ⟨u,hr,h6⟩=>?_
   subst hr
   refine thn h6 fun _ s7 ⟨x,H7,I7,r7,y7,st7,fr7⟩=>?_
   have I7':=I7.pinned (stat fr7) (T.obj _ _ st7)
   refine thn (hg cl' C fp _ _ _ s7 _ H7 x u _ I7' r7 (step x H7 y7)) fun _ s8 ⟨σ8,H8,I8,dr8,q8⟩=>?_
   have again:∀ {s':Shared} {H':Hp} {ys':List V},Inv (q1o X own caps scope cl' C fp { s with heap:=h2 } H3) ([]++q6t fp s7.heap) σ8 H' s'→(∃ m',m' < n∧W (i+1) m' ys' H')→
     ∃ m,m < n∧∃ i ys H',Inv (q1o X own caps scope cl' C fp { s with heap:=h2 } H3) [] (capv own.length cs σ) H' s'∧tn i s'.heap∧(∀ b∈fp,H' b=none)∧W i m ys H':=fun {s' H' ys'} I9 ⟨m',hm,w9⟩=>by
    have l8:σ8.length=own.length+cs.length:=by have:=I9.len;rw [this];show (own++caps).length=_;simp [csl]
    refine ⟨m',hm,i+1,ys',H',(I9.unpinned).weak (by unfold capv;simp [l8]) (fun j v ej=>?_),T.keep _ _ _ st7 fun b hb o e=>(I9.pin (b,o) (List.mem_append_right _ (List.mem_append_right _ (q29 hb e)))).1,fun b hb=>?_,w9⟩
    ·have hj:own.length≤j:=by
      refine Nat.le_of_not_lt fun z=>?_
      unfold capv at ej
      rw [List.getElem?_append_left (by simpa using z),List.getElem?_replicate,if_pos z] at ej
      cases ej
     unfold capv at ej
     rw [List.getElem?_append_right (by simpa using hj),List.length_replicate,← dr8,List.getElem?_drop] at ej
     rw [show own.length+(j - own.length)=j by omega] at ej
     exact ej
    ·obtain ⟨o,e,d⟩:=T.obj _ _ st7 b hb
     exact (I9.pin (b,o) (List.mem_append_right _ (List.mem_append_right _ (q29 hb e)))).2.1
   refine thn (ht cl' C fp _ _ _ s8 σ8 H8 _ I8 q8) fun b s9 ⟨H9,I9,q9⟩=>?_
   cases b with
   | false=>
    rw [if_neg Bool.false_ne_true] at q9 ⊢
    exact again I9 q9
   | true=>
    rw [if_pos rfl] at q9 ⊢
    refine thn (he cl' C fp _ _ _ s9 σ8 H9 _ I9 q9) fun xv s10 ⟨y,H10,I10,r10,hD10,hlen,q10⟩=>?_
    refine thn (q15 (X:=q1o X own caps scope cl' C fp { s with heap:=h2 } H3) _ s10 σ8 H10 (.ref D) [y] (.ref D) [xv] (fun _ H'=>H'=upd H10 D (.lst (ys++[y]))) I10 rfl (.cons r10 .nil) ⟨D,ys,y,rfl,rfl,hD10,hlen,rfl⟩) fun _ s11 ⟨_,H11,I11,_,e11⟩=>?_
    subst e11
    exact again I11 q10
 exact codeAny_compStart_list (loop _ rfl) (T.self _ 0 _ _ _ hst₁ (loop _ rfl))
theorem hClosN (S:CompScN X sc own caps cs scope) (ok:X.Ok):∀ x,(x,NameKind.free)∈scope.names→∃ c,X.env.cells.lookup x=some c:=fun x hx=>ok.has x (.inl (by
 show X.env.scope.names.lookup x=some .cell
 rw [S.scp]
 exact S.free (x,.free) hx rfl))
theorem ps_compN {g:List (Str × Addr)→Addr→List Addr→Shared→Hp→TG} {tc:List (Str × Addr)→Addr→List Addr→Shared→Hp→TT} {te:List (Str × Addr)→Addr→List Addr→Shared→Hp→TE} {i:Nat} {y:Str} {py spos:Pos} (S:CompScN X sc own caps cs scope) (hc:X.calm=true) (hN:X.N.Nodup) (hyi:X.N[i]?=some y) (hy:X.env.scope.names.lookup y=some .local)
  (hsw:swapsWith (.ListComp elt [⟨tg,iter,ifs,0⟩] scope pos) (some (.Name y py)) spos.line X.env=pure true)
  (hi:PI X tg iter wi) (hg:∀ cl C fp s₃ H₃,PG (q1o X own caps scope cl C fp s₃ H₃) tg (g cl C fp s₃ H₃)) (ht:∀ cl C fp s₃ H₃,PF (q1o X own caps scope cl C fp s₃ H₃) ifs (tc cl C fp s₃ H₃))
  (he:∀ cl C fp s₃ H₃,PE (q1o X own caps scope cl C fp s₃ H₃) elt (te cl C fp s₃ H₃)) (hge:∀ cl C fp s₃ H₃,g cl C fp s₃ H₃=g [] 0 [] X.s₀ X.H₀:=by intros;rfl) (hte:∀ cl C fp s₃ H₃,tc cl C fp s₃ H₃=tc [] 0 [] X.s₀ X.H₀:=by intros;rfl)
  (hee:∀ cl C fp s₃ H₃,te cl C fp s₃ H₃=te [] 0 [] X.s₀ X.H₀:=by intros;rfl) (hs:∀ x,foldedSetIterable iter X.env x=pure x:=by intro _;rfl) :
  PS X (.Assign [.Name y py] (.ListComp elt [⟨tg,iter,ifs,0⟩] scope pos) spos) (tAsg (tComp own.length cs wi (g [] 0 [] X.s₀ X.H₀) (tc [] 0 [] X.s₀ X.H₀) (te [] 0 [] X.s₀ X.H₀)) (q7u i)):=by
 intro pins s σ H D I h
 obtain ⟨cl,hcl,cl1,cl2⟩:=q4p (hClosN S I.ok)
 rw [exec_Assign_Name_used _ _ _ _ hsw]
 refine wpAny_bind (wpAny_standAt (wpAny_bind ?_))
 show wpAny _ X.A (do let _ ← comprehension (.ListComp elt [⟨tg,iter,ifs,0⟩] scope pos) scope X.env _ (newList []) false (eval iter X.env) (some (assign (.Name y py) X.env))) _ _ s
 refine wpAny_bind (wpAny_mono (wpAny_comprehension_free (use:=some (assign (.Name y py) X.env)) (Q:=fun _ s'=>SP X pins D .next s') rfl hs hcl S.kind S.names
  (thn (hi pins s σ H _ I h) fun v s1 h1=>thn h1 fun itv s2 h2=>?_)) (fun _ s' hq=>wpAny_pure (wpAny_pure hq)) fun _ _ e=>e)
 obtain ⟨it,fp,tn,J,H2,rfl,I2,T,st2,f2,h2⟩:=h2
 refine comp_coreN (Q:=fun x H1=>q7u i x σ H1 D.nx) (RR:=fun acc C=>compPost (model X.prog X.w) X.A X.xe (some (assign (.Name y py) X.env)) (fun _ s'=>SP X pins D .next s') acc C) S hc (fun cl C fp s₃ H₃=>hge cl C fp s₃ H₃ ▸ hg cl C fp s₃ H₃) (fun cl C fp s₃ H₃=>hte cl C fp s₃ H₃ ▸ ht cl C fp s₃ H₃) (fun cl C fp s₃ H₃=>hee cl C fp s₃ H₃ ▸ he cl C fp s₃ H₃) cl1 cl2 I2 T st2 f2 h2 ?_
 intro Dl C s' H' I' hm hf q
 obtain ⟨m,hn⟩:=hm
 obtain ⟨f0,f1,f2,f3,f4,f5⟩:=hf
 show wpAny _ X.A (assign (.Name y py) X.env (.ref Dl)) _ _ _
 refine wpAny_assign_Name (q5r I' hN hyi (.inl hy) (v:=.ref Dl) rfl (fun s3 I3 ⟨a,sb,ha⟩=>?_) (.inr hy))
 have hCa:C≠a:=by
  rcases ha with rfl | ha
  ·exact f1
  ·exact Ne.symm (f4 _ _ ha)
 refine ⟨m,hn.sameBut sb hCa,fun h' hs'=>⟨_,H',I3.turned (t':=s3.toks) (it:=C) (fun b o hb e=>(hs'.2 b hb).trans e) f0 f1 f3 f4 f5,q⟩⟩
end
end L2
namespace L2
open PySem PySem.Spec PyProof.Rows XL
section
variable {X:Cx} {pins:List (Addr × Obj)} {σ:St} {H H':Hp} {s:Shared} {h':Heap}
theorem Inv.turnedN {t':Nat} {ch:List Addr} (I:Inv X pins σ H s) (k:∀ b o,b ∉ ch→s.heap.get? b=some o→h'.get? b=some o) (f:∀ b∈ch,FpOk X pins H b):Inv X pins σ H { s with heap:=h',toks:=t' }:=by
 have nit:∀ b u,H b=some u→b ∉ ch:=fun b u e z=>by rw [(f b z).1] at e;cases e
 refine I.step (g':=s.gens) (d':=s.drawn) (ch:=ch) (fun b hb=>?_) (fun b o _ _ hc e _=>k b o hc e) (fun b o _ _ hc e _=>⟨o.slots,k b o hc e⟩) (fun _ _ _ _ n=>n)
  (fun b o hc e=>⟨o,k b o hc e⟩) (fun _ _ e=>e) (fun _ _ _ e=>e) (fun b ps e=>⟨#[],by rw [e];simp⟩) (fun m hm=>?_) (fun b u e=>?_) I.bare
 ·obtain ⟨f0,f1,f2,f3,f4,f5⟩:=f b hb
  exact ⟨f3,f1,f4,f5⟩
 ·obtain ⟨o,es,ep,ho,r⟩:=hm
  exact ⟨o,es,ep,k _ o (fun z=>(f _ z).2.1 rfl) ho,r⟩
 ·refine (I.hok b u e).stay (fun c v hc q=>k c v ?_ q) (fun _ q=>q) fun _ _ q=>q
  rcases hc with z | z
  ·rw [z];exact nit b u e
  ·exact nit c _ z
theorem Inv.trackTup {T:Addr} {xs:List V} {its:List Value} (I:Inv X pins σ H s) (f:FpOk X pins H T) (h0:X.s₀.heap.get? T=none) (hz:xs.length≤sizeLine) (r:Vals xs its) (e:IsTup s.heap T its.toArray):Inv X pins σ (upd H T (.tup xs)) s:=by
 obtain ⟨f0,f1,f2,f3,f4,f5⟩:=f
 exact I.track f0 h0 f1 f4 f5 ⟨hz,its,r,e⟩
end
def Ite (K:W.Frag) (l:Addr):It:=
 ⟨fun i H=>∃ xs x,SqL K H l xs∧xs[i]?=some x,
  fun i H v H'=>∃ T,v=.ref T∧H T=none∧∀ xs x,SqL K H l xs→xs[i]?=some x→H'=upd H T (.tup [.int i,x]),
  fun i H=>∃ xs,SqL K H l xs∧xs.length≤i⟩
theorem turn_enum {P:Program} {w:World} {K:W.Frag} {es:List Expr} {x1} {tp:Pos} (l e it:Addr) (n12:e≠it):Turn P w K (.Tuple es x1 tp) (Ite K l) [e,it] e
  (fun i h=>(∃ old,IsEnum h e it i old)∧h.IsListIter it l i) where
 mem:=by simp
 obj:=fun i h ⟨⟨old,he⟩,⟨o1,e1,c1,d1⟩⟩ b hb=>by
  simp at hb
  rcases hb with rfl | rfl
  ·exact ⟨_,he,fun v z=>by cases z⟩
  ·exact ⟨_,e1,fun v z=>by rw [d1] at z;cases z⟩
 keep:=fun i h h' ⟨⟨old,he⟩,h1⟩ k=>⟨⟨old,k e (by simp) _ he⟩,h1.at fun o q=>k it (by simp) o q⟩
 item:=by
  intro X hP hw hK hc i pins s σ H E I hf st hg
  subst hP hw hK
  obtain ⟨⟨old,he⟩,h1⟩:=st
  obtain ⟨xs,x,hq1,hx⟩:=hg
  obtain ⟨its1,rv1,p1,hz1⟩:=I.list hq1
  obtain ⟨u1,hu1,ru1⟩:=rv1.get hx
  refine wpAny_pyNext_enum_item he h1 p1.isList (x:=u1) (by simpa using hu1) n12 fun h' a1 a3 a5 a6 kk=>?_
  refine ⟨_,rfl,wpAny_letOwnedTupleGo_enum (s:={ s with heap:=h',toks:=s.toks+1 }) a1 fun h'' z1 sb=>?_⟩
  have kz:∀ c o,c ∉ [e,it]→s.heap.get? c=some o→h''.get? c=some o:=fun c o hc q=>sb.extBut c o (fun q=>hc (by simp [q])) (kk c o (fun q=>hc (by simp [q])) (fun q=>hc (by simp [q])) q)
  have I1:Inv X pins σ H { s with heap:=h'',toks:=s.toks+1 }:=I.turnedN (t':=s.toks+1) (ch:=[e,it]) kz hf
  have fr:FpOk X pins H s.heap.objs.size:=I.fpOk (Nat.le_refl _) I.fresh
  have nz:s.heap.objs.size≠e:=Nat.ne_of_gt (Heap.lt_size he)
  have tup:h''.get? s.heap.objs.size=some { cls:=.type "tuple",data:=.seq #[.int i s.toks,u1] }:=sb.extBut _ _ nz a5
  have I2:Inv X pins σ (upd H s.heap.objs.size (.tup [.int i,x])) { s with heap:=h'',toks:=s.toks+1 }:=I1.trackTup (its:=[.int i s.toks,u1]) fr (by
    cases q:X.s₀.heap.get? s.heap.objs.size with
    | none=>rfl
    | some o=>exact absurd (Nat.lt_of_lt_of_le (Heap.lt_size q) I.sz) (Nat.lt_irrefl _)) (by show 2≤sizeLine;rw [sizeLine_eq];decide) (.cons ⟨_,rfl⟩ (.cons ru1 .nil)) ⟨_,tup,rfl,0,rfl⟩
  refine ⟨.ref s.heap.objs.size,_,I2,rfl,⟨_,rfl,fr.1,fun xs' x' e1 e3=>?_⟩,⟨⟨_,z1⟩,a3.extBut sb.extBut (Ne.symm n12)⟩,fun b hb=>?_⟩
  ·rw [I.list_inj e1 hq1,hx] at e3
   cases e3
   rfl
  ·have nb:b≠s.heap.objs.size:=by
    have lt:∀ {c o},s.heap.get? c=some o→c≠s.heap.objs.size:=fun e=>Nat.ne_of_lt (Heap.lt_size e)
    obtain ⟨o1,e1,_⟩:=h1
    simp at hb
    rcases hb with rfl | rfl
    ·exact lt he
    ·exact lt e1
   rw [q08 nb]
   exact (hf b hb).1
 done:=by
  intro X hP hw hK hc i pins s σ H E I hf st hg
  subst hP hw hK
  obtain ⟨⟨old,he⟩,h1⟩:=st
  obtain ⟨xs,hq1,hend⟩:=hg
  obtain ⟨its1,rv1,p1,hz1⟩:=I.list hq1
  have l1':=rv1.length
  refine wpAny_pyNext_enum_end (I.ok.hd hc) he h1 p1.isList (by simp;omega) fun h' kk=>⟨rfl,?_⟩
  exact I.turnedN (t':=s.toks) (ch:=[e,it]) (fun c o hc q=>kk c o (fun q=>hc (by simp [q])) q) hf
 self:=fun _ _ _ _ _ st h=>wpAny_pyIter_enum st.1.choose_spec h
theorem boot_zip:bootBuiltins "zip" = some (.type "zip"):=by decide +kernel
theorem boot_enum:bootBuiltins "enumerate" = some (.type "enumerate"):=by decide +kernel
section
variable {X:Cx} {es:List Expr} {x1:Nat} {tp:Pos}
def iEnum (K:W.Frag) (ta:TA):TI:=fun σ H R=>ta σ H fun vs H1=>∃ l xs,vs=[.ref l]∧SqL K H1 l xs∧R (Ite K l) H1
theorem pi_enum {a:Expr} {ta:TA} {p pos:Pos} (hg:Gl X "enumerate") (hm:X.mg "enumerate" = none) (ha:PA X [a] ta) (hs:starEach [a] X.env=[(false,eval a X.env)]:=by rfl) :
  PI X (.Tuple es x1 tp) (.Call (.Name "enumerate" p) [a] [] pos) (iEnum X.K ta):=by
 intro pins s σ H R I h
 refine Call_ (q2s I hg hm boot_enum (PyProof.Rows.callWith_type1 (thn (ha pos pins s σ H _ I h) fun us s1 ⟨vs,H1,I1,r1,q1⟩=>?_) hs rfl))
 obtain ⟨l,xs,e,hx,q⟩:=q1
 subst e
 cases r1 with
 | cons r rr=>
  cases rr
  cases r
  obtain ⟨its1,rv1,p1,hz1⟩:=I1.list hx
  refine call_enumerate_list p1.isList fun h' a1 a2 a6 kk=>wpAny_pyIter_enum a1 ?_
  refine ⟨_,_,_,_,H1,rfl,I1.kept (t':=s1.toks) kk,turn_enum l (s1.heap.objs.size+1) s1.heap.objs.size (Nat.ne_of_gt (Nat.lt_succ_self _)),⟨⟨_,a1⟩,a2⟩,fun b hb=>?_,q⟩
  have hb':s1.heap.objs.size≤b:=by
   simp at hb
   rcases hb with rfl | rfl
   ·exact Nat.le_add_right _ 1
   ·exact Nat.le_refl _
  exact I1.fpOk hb' (I1.hok.fresh hb')
end
theorem SqL.same {K:W.Frag} {H H':Hp} {a:Addr} {xs:List V} (h:SqL K H a xs) (s:Same H H'):SqL K H' a xs:=by
 rcases h with (h | ⟨o,h⟩) | h
 ·exact .inl (.inl (s _ _ h))
 ·exact .inl (.inr ⟨o,s _ _ h⟩)
 ·exact .inr h
theorem Same.rfl' {H:Hp}:Same H H:=fun _ _ e=>e
theorem Same.tr {H H1 H2:Hp} (a:Same H H1) (b:Same H1 H2):Same H H2:=fun x o e=>b x o (a x o e)
theorem Same.new {H H1:Hp} {D:Addr} {o:HO} (a:Same H H1) (hn:H D=none):Same H (upd H1 D o):=fun b u e=>by
 rw [q08 (q05 e hn)]
 exact a b u e
theorem q4h {J:It} {n:Nat} {H1:Hp} {D:Addr} {g:TG} {tc:TT} {te:TE} {k:Nat} {cs:List Nat} {σ:St} {Q:VK} (hD:H1 D=none) (ys:Nat→List V) (y0:ys 0=[]) (hl:∀ i,i < n→(ys i).length < sizeLine)
  (step:∀ i H,i < n→Same H1 H→H D=some (.lst (ys i))→J.go i H∧∀ (K1:VK) (K2:Hp→Prop),(∀ y H4,Same H H4→ys (i+1)=ys i++[y]→K1 y H4)→(∀ H3,Same H H3→ys (i+1)=ys i→K2 H3)→
   ∀ x H',J.yld i H x H'→g x (capv k cs σ) H' fun σ2 H2=>σ2.drop k=cs.map (fun i=>σ.getD i none)∧tc σ2 H2 fun b H3=>if b=true then te σ2 H3 K1 else K2 H3)
  (fin:∀ H,Same H1 H→H D=some (.lst (ys n))→J.stop n H∧Q (.ref D) H):z07 J k cs σ g tc te Q H1 D:=by
 refine ⟨fun i m zs H=>m=n - i∧i≤n∧zs=ys i∧Same H1 H∧H D=some (.lst zs),⟨n,by simp,Nat.zero_le _,y0.symm,Same.rfl'.new hD,q01⟩,?_⟩
 rintro i m zs H ⟨rfl,hi,rfl,sm,hDi⟩
 by_cases hlt:i < n
 ·obtain ⟨go,st⟩:=step i H hlt sm hDi
  refine .inr ⟨go,st _ _ (fun v H4 s4 e4=>?_) (fun H3 s3 e3=>?_)⟩
  ·exact ⟨s4 _ _ hDi,hl i hlt,n - (i+1),by omega,rfl,hlt,e4.symm,(sm.tr s4).new hD,q01⟩
  ·exact ⟨n - (i+1),by omega,rfl,hlt,e3.symm,sm.tr s3,s3 _ _ hDi⟩
 ·have e:i=n:=by omega
  subst e
  exact .inl (fin H sm hDi)
theorem q5p {J:It} {n:Nat} {H1:Hp} {D:Addr} {g:TG} {te:TE} {k:Nat} {cs:List Nat} {σ:St} {Q:VK} (hD:H1 D=none) (ys:Nat→List V) (y0:ys 0=[]) (hl:∀ i,i < n→(ys i).length < sizeLine)
  (step:∀ i H,i < n→Same H1 H→H D=some (.lst (ys i))→J.go i H∧∀ (K1:VK),(∀ y H4,Same H H4→ys (i+1)=ys i++[y]→K1 y H4)→
   ∀ x H',J.yld i H x H'→g x (capv k cs σ) H' fun σ2 H2=>σ2.drop k=cs.map (fun i=>σ.getD i none)∧te σ2 H2 K1)
  (fin:∀ H,Same H1 H→H D=some (.lst (ys n))→J.stop n H∧Q (.ref D) H):z07 J k cs σ g tNoIf te Q H1 D:=by
 refine q4h hD ys y0 hl (fun i H hi sm hDi=>?_) fin
 obtain ⟨go,st⟩:=step i H hi sm hDi
 exact ⟨go,fun K1 K2 k1 k2 x H' y=>st K1 k1 x H' y⟩
theorem q4e:∀ {ns:List Int} {its:List Value},Vals (ns.map V.int) its→IntsAre its ns
 | [],_,.nil=>.nil
 | n::ns,_,.cons r t=>by
  obtain ⟨k,rfl⟩:=r
  exact .cons n k (q4e t)
theorem q7i:∀ {ns:List Int} {its:List Value},IntsAre its ns→Vals (ns.map V.int) its
 | _,_,.nil=>.nil
 | _,_,.cons n t r=>.cons ⟨t,rfl⟩ (q7i r)
section
variable {X:Cx}
theorem q6z {bs:List Bool} {its:List Value} (r:Vals (bs.map V.bl) its):its=bs.map Value.bool:=by
 induction bs generalizing its with
 | nil=>cases r;rfl
 | cons b bs ih=>
  cases r with
  | cons r t=>cases r;rw [ih t];rfl
theorem q5z {prog:Program} {w:World} {A:Around} {bs:List Bool}:TruthOf prog w A (fun i v=>(bs.map Value.bool).toArray[i]?=some v) (fun i=>bs.getD i false):=fun i v s Q E hP hQ=>by
 have e:bs[i]?.map Value.bool=some v:=by simpa using hP
 cases q:bs[i]? with
 | none=>rw [q] at e;cases e
 | some b=>
  rw [q] at e
  cases e
  have:bs.getD i false=b:=by rw [List.getD_eq_getElem?_getD,q];rfl
  exact wpAny_pure (this ▸ hQ)
theorem range_all {bs:List Bool}:(List.range bs.length).all (fun i=>bs.getD i false)=bs.all id:=by
 rw [Bool.eq_iff_iff,List.all_eq_true,List.all_eq_true]
 constructor
 ·intro h b hb
  obtain ⟨i,hi,e⟩:=List.mem_iff_getElem.mp hb
  have:=h i (List.mem_range.mpr hi)
  rw [List.getD_eq_getElem?_getD,List.getElem?_eq_getElem hi,e] at this
  exact this
 ·intro h i hi
  have hi:=List.mem_range.mp hi
  rw [List.getD_eq_getElem?_getD,List.getElem?_eq_getElem hi]
  exact h _ (List.getElem_mem hi)
theorem range_any {bs:List Bool}:(List.range bs.length).any (fun i=>bs.getD i false)=bs.any id:=by
 rw [Bool.eq_iff_iff,List.any_eq_true,List.any_eq_true]
 constructor
 ·rintro ⟨i,hi,h⟩
  have hi:=List.mem_range.mp hi
  rw [List.getD_eq_getElem?_getD,List.getElem?_eq_getElem hi] at h
  exact ⟨_,List.getElem_mem hi,h⟩
 ·rintro ⟨b,hb,h⟩
  obtain ⟨i,hi,e⟩:=List.mem_iff_getElem.mp hb
  refine ⟨i,List.mem_range.mpr hi,?_⟩
  rw [List.getD_eq_getElem?_getD,List.getElem?_eq_getElem hi,e]
  exact h
theorem z0g {s:Shared} {l:Addr} {h':Heap} (hk:∀ b o,b ∉ [s.heap.objs.size]→(s.heap.push { cls:=.type "list_iterator",data:=.fields #[.ref l,.int 0 0] }).get? b=some o→h'.get? b=some o) :
  ∀ b o,s.heap.get? b=some o→h'.get? b=some o:=fun b o e=>by
 refine hk b o (fun hm=>?_) (Heap.get?_push_of_some _ e)
 rcases List.mem_cons.mp hm with e1 | hm
 ·exact absurd (e1 ▸ Heap.lt_size e) (Nat.lt_irrefl _)
 ·cases hm
theorem call_allB (hc:X.calm=true):q2i X (.builtin "all") (fun xs H Q=>∃ (p:Addr) (bs:List Bool),xs=[.ref p]∧SqL X.K H p (bs.map V.bl)∧Q (.bl (bs.all id)) H):=by
 intro pins s σ H xs us Q I r h
 obtain ⟨p,bs,rfl,hp,q⟩:=h
 obtain ⟨u,rfl,ru⟩:=r.one
 cases ru
 obtain ⟨its,rv,pl,hz⟩:=I.list hp
 have e:=q6z rv
 subst e
 have hlt:p < s.heap.objs.size:=by obtain ⟨_,e,_⟩:=pl.isList;exact Heap.lt_size e
 refine call_all_walk (wpAny_pyIter_list pl.isList ?_)
 refine ⟨_,_,_,_,_,_,fun i=>bs.getD i false,rfl,Walks.list (A:=X.A.in1) (I.ok.hd hc) _ p (Nat.ne_of_lt hlt) _,⟨⟨_,Heap.get?_push_size _ rfl,rfl,rfl⟩,pl.isList.push _⟩,q5z,fun h' tk hk=>?_⟩
 refine ⟨.bl (bs.all id),H,I.kept (z0g hk),?_,q⟩
 show Value.bool _=Value.bool _
 rw [List.size_toArray,List.length_map,range_all]
theorem q9g (hc:X.calm=true):q2i X (.builtin "any") (fun xs H Q=>∃ (p:Addr) (bs:List Bool),xs=[.ref p]∧SqL X.K H p (bs.map V.bl)∧Q (.bl (bs.any id)) H):=by
 intro pins s σ H xs us Q I r h
 obtain ⟨p,bs,rfl,hp,q⟩:=h
 obtain ⟨u,rfl,ru⟩:=r.one
 cases ru
 obtain ⟨its,rv,pl,hz⟩:=I.list hp
 have e:=q6z rv
 subst e
 have hlt:p < s.heap.objs.size:=by obtain ⟨_,e,_⟩:=pl.isList;exact Heap.lt_size e
 refine call_any_walk (wpAny_pyIter_list pl.isList ?_)
 refine ⟨_,_,_,_,_,_,fun i=>bs.getD i false,rfl,Walks.list (A:=X.A.in1) (I.ok.hd hc) _ p (Nat.ne_of_lt hlt) _,⟨⟨_,Heap.get?_push_size _ rfl,rfl,rfl⟩,pl.isList.push _⟩,q5z,fun h' tk hk=>?_⟩
 refine ⟨.bl (bs.any id),H,I.kept (z0g hk),?_,q⟩
 show Value.bool _=Value.bool _
 rw [List.size_toArray,List.length_map,range_any]
theorem z1m {its:List Value} {ns:List Int} (h:IntsAre its ns):∀ i v,its.toArray[i]?=some v→∃ t,v=Value.int (ns.getD i 0) t:=by
 suffices q:∀ i v,its[i]?=some v→∃ t,v=Value.int (ns.getD i 0) t from fun i v e=>q i v (by simpa using e)
 induction h with
 | nil=>intro i v e;simp at e
 | cons n t _ ih=>
  intro i v e
  cases i with
  | zero=>simp at e;exact ⟨t,by simp [← e]⟩
  | succ i=>simpa using ih i v (by simpa using e)
def q0j (ns:List Int):List Int:=firstMet (fun i=>ns.getD i 0) ns.length
theorem call_setI (hc:X.calm=true):q2i X (.type "set") (fun xs H Q=>∃ (p:Addr) (ns:List Int),xs=[.ref p]∧SqL X.K H p (ns.map V.int)∧ns.length+1 < scanBound∧∀ d,H d=none→Q (.ref d) (upd H d (.set (fun k=>(q0j ns).any (· == k)) (q0j ns).length))):=by
 intro pins s σ H xs us Q I r h
 obtain ⟨p,ns,rfl,hp,h1,q⟩:=h
 obtain ⟨u,rfl,ru⟩:=r.one
 cases ru
 obtain ⟨its,rv,pl,hz⟩:=I.list hp
 have hI:=q4e rv
 have hlen:=hI.length
 have hsz:its.toArray.size=ns.length:=by rw [List.size_toArray,hlen]
 refine PySem.call_set_list (ns:=ns) (I.ok.hd hc) pl.isList (by simpa using hI) (by rw [hsz];exact h1) fun h' tk hS hk=>?_
 rw [hsz] at hS
 exact ⟨.ref s.heap.objs.size,_,I.laid (o:=.set (fun k=>(q0j ns).any (· == k)) (q0j ns).length) (fun b o e=>hk b o (Heap.lt_size e) e) (Nat.le_refl _) hS,rfl,q _ I.fresh⟩
theorem q9m:q2i X (.builtin "len") (fun xs H Q=>∃ a S n,xs=[.ref a]∧H a=some (.set S n)∧(n:Int) < 2 ^ 63∧Q (.int n) H):=by
 intro pins s σ H xs us Q I r h
 obtain ⟨a,S,n,rfl,ha,hn,q⟩:=h
 obtain ⟨u,rfl,ru⟩:=r.one
 cases ru
 have hS:s.heap.SetOf (intKind X.prog X.w) a S n:=I.hok a _ ha
 obtain ⟨o,es,ep,t,e,ex,hd,_,_,_,hf,rfl⟩:=hS
 exact call_len_set e ex hd hf hn ⟨.int es.size,H,I.tok _,⟨_,rfl⟩,q⟩
end
end L2
namespace L2
open PySem PySem.Spec PyProof.Rows
section
variable {κ:Type} [DecidableEq κ]
def valV (kvs:List (κ × V)) (k:κ):Option V:=(kvs.find? fun kv=>decide (kv.1=k)).map (·.2)
def putK (kvs:List (κ × V)) (k:κ) (v:V):List (κ × V):=
 if (kvs.any fun kv=>decide (kv.1=k))=true then kvs.map (fun kv=>if kv.1=k then (kv.1,v) else kv) else kvs++[(k,v)]
theorem valV_nil {k:κ}:valV ([]:List (κ × V)) k=none:=rfl
theorem q1d {p:κ × V} {r:List (κ × V)} {k:κ} (e:p.1=k):valV (p::r) k=some p.2:=by simp [valV,List.find?_cons,e]
theorem q1l {p:κ × V} {r:List (κ × V)} {k:κ} (e:¬ p.1=k):valV (p::r) k=valV r k:=by simp [valV,List.find?_cons,e]
theorem q28 (k:κ):∀ kvs:List (κ × V),(kvs.any fun kv=>decide (kv.1=k))=(valV kvs k).isSome
 | []=>rfl
 | p::r=>by
  rw [List.any_cons]
  by_cases e:p.1=k
  ·simp only [q1d e,decide_eq_true e,Bool.true_or,Option.isSome_some]
  ·rw [q1l e,decide_eq_false e,Bool.false_or];exact q28 k r
theorem z1x (k j:κ) (y:V):∀ kvs:List (κ × V),valV (kvs.map fun kv=>if kv.1=k then (kv.1,y) else kv) j=(valV kvs j).map fun x=>if j=k then y else x
 | []=>rfl
 | p::r=>by
  have ih:=z1x k j y r
  rw [List.map_cons]
  by_cases h:p.1=k
  ·rw [if_pos h]
   by_cases e:p.1=j
   ·rw [q1d (p:=(p.1,y)) e,q1d e,Option.map_some,if_pos (e.symm.trans h)]
   ·rw [q1l (p:=(p.1,y)) e,q1l e,ih]
  ·rw [if_neg h]
   by_cases e:p.1=j
   ·rw [q1d (p:=p) e,q1d e,Option.map_some,if_neg (fun z=>h (e.trans z))]
   ·rw [q1l (p:=p) e,q1l e,ih]
theorem q8m (k j:κ) (y:V):∀ kvs:List (κ × V),valV kvs k=none→valV (kvs++[(k,y)]) j=if j=k then some y else valV kvs j
 | [],_=>by
  by_cases e:k=j
  ·rw [if_pos e.symm];exact q1d (p:=(k,y)) e
  ·rw [if_neg (fun z=>e z.symm)];exact q1l (p:=(k,y)) e
 | p::r,hn=>by
  rw [List.cons_append]
  have hk:¬ p.1=k:=fun z=>by rw [q1d z] at hn;cases hn
  rw [q1l hk] at hn
  have ih:=q8m k j y r hn
  by_cases e:p.1=j
  ·rw [q1d e,q1d e,if_neg (fun z=>hk (e.trans z))]
  ·rw [q1l e,q1l e,ih]
theorem q59 (kvs:List (κ × V)) (k j:κ) (y:V):valV (putK kvs k y) j=if j=k then some y else valV kvs j:=by
 unfold putK
 by_cases a:(kvs.any fun kv=>decide (kv.1=k))=true
 ·rw [if_pos a,z1x]
  rw [q28] at a
  by_cases e:j=k
  ·obtain ⟨x,hx⟩:=Option.isSome_iff_exists.mp a
   rw [if_pos e,e,hx,Option.map_some,if_pos rfl]
  ·rw [if_neg e]
   cases valV kvs j with
   | none=>rfl
   | some x=>rw [Option.map_some,if_neg e]
 ·rw [if_neg a]
  refine q8m k j y kvs ?_
  rw [q28] at a
  cases q:valV kvs k with
  | none=>rfl
  | some x=>rw [q] at a;exact (a rfl).elim
theorem q3w (kvs:List (κ × V)) (k:κ) (v:V):(putK kvs k v).length≤kvs.length+1:=by
 unfold putK
 split
 ·rw [List.length_map];omega
 ·rw [List.length_append,List.length_cons,List.length_nil];omega
theorem putK_new {kvs:List (κ × V)} {k:κ} (v:V) (h:valV kvs k=none):putK kvs k v=kvs++[(k,v)]:=by
 unfold putK
 rw [q28,h]
 exact if_neg (by decide)
theorem RelO.isSome_eq {o:Option V} {u:Option Value} (r:RelO o u):o.isSome=u.isSome:=by
 cases o with
 | none=>cases u with
  | none=>rfl
  | some _=>exact (show False from r).elim
 | some _=>cases u with
  | none=>exact (show False from r).elim
  | some _=>rfl
theorem RelO.getD {o:Option V} {u:Option Value} {d:V} {d':Value} (r:RelO o u) (rd:RelV d d'):RelV (o.getD d) (u.getD d'):=by
 cases o with
 | none=>cases u with
  | none=>exact rd
  | some _=>exact (show False from r).elim
 | some _=>cases u with
  | none=>exact (show False from r).elim
  | some _=>exact r
theorem KV.val {kvs:List (κ × V)} {vs:List (κ × Value)} (r:KV kvs vs) (k:κ):RelO (valV kvs k) (valueAt vs k):=by
 unfold KV at r
 induction r with
 | nil=>exact True.intro
 | @cons p q ps qs h t ih=>
  obtain ⟨h1,h2⟩:=h
  by_cases e:p.1=k
  ·have e':q.1=k:=h1.symm.trans e
   have b:valueAt (q::qs) k=some q.2:=by simp [valueAt,List.find?_cons,e']
   rw [q1d e,b];exact h2
  ·have e':¬ q.1=k:=fun z=>e (h1.trans z)
   have b:valueAt (q::qs) k=valueAt qs k:=by simp [valueAt,List.find?_cons,e']
   rw [q1l e,b];exact ih
theorem KV.any {kvs:List (κ × V)} {vs:List (κ × Value)} (r:KV kvs vs) (k:κ):(kvs.any fun kv=>decide (kv.1=k))=vs.any fun kv=>decide (kv.1=k):=by
 unfold KV at r
 induction r with
 | nil=>rfl
 | cons h t ih=>rw [List.any_cons,List.any_cons,ih,h.1]
theorem KV.repl {kvs:List (κ × V)} {vs:List (κ × Value)} (r:KV kvs vs) (k:κ) {y:V} {u:Value} (ry:RelV y u) :
  KV (kvs.map fun kv=>if kv.1=k then (kv.1,y) else kv) (vs.map fun kv=>if kv.1=k then (kv.1,u) else kv):=by
 unfold KV at r ⊢
 induction r with
 | nil=>exact .nil
 | @cons p q ps qs h t ih=>
  rw [List.map_cons,List.map_cons]
  refine .cons ?_ ih
  obtain ⟨h1,h2⟩:=h
  by_cases e:p.1=k
  ·rw [if_pos e,if_pos (h1.symm.trans e)];exact ⟨h1,ry⟩
  ·rw [if_neg e,if_neg (fun z=>e (h1.trans z))];exact ⟨h1,h2⟩
theorem KV.put {kvs:List (κ × V)} {vs:List (κ × Value)} (r:KV kvs vs) (k:κ) {y:V} {u:Value} (ry:RelV y u):KV (putK kvs k y) (stored vs k u):=by
 unfold putK stored
 rw [r.any k]
 by_cases e:(vs.any fun kv=>decide (kv.1=k))=true
 ·rw [if_pos e,if_pos e];exact r.repl k ry
 ·rw [if_neg e,if_neg e];exact Paired.snoc r ⟨rfl,ry⟩
theorem KV.length {kvs:List (κ × V)} {vs:List (κ × Value)} (r:KV kvs vs):kvs.length=vs.length:=Paired.length r
end
theorem kV_is {P:Program} {w:World} {k:Key} {u:Value} (r:RelV (kV k) u):(q14 P w).is k u=true:=by
 cases k with
 | inl i=>obtain ⟨t,e⟩:=(show ∃ t,u=Value.int i t from r);subst e;exact z0h P w i t
 | inr x=>obtain ⟨t,e⟩:=(show ∃ t,u=Value.str x t from r);subst e;exact q9k P w x t
theorem q8g {P:Program} {w:World}:∀ {ks:List Key} {us:List Value},Vals (ks.map kV) us→ItemsAre (q14 P w) ks us
 | [],_,r=>by rw [List.map_nil] at r;cases r;exact .nil
 | k::ks,_,r=>by
  rw [List.map_cons] at r
  cases r with
  | cons h t=>exact .cons (kV_is h) (q8g t)
abbrev KT (H:Hp):List (List Key × V)→List (List Key × Addr × Value)→Prop:=Paired fun p q=>p.1=q.1∧H q.2.1=some (.tup (p.1.map kV))∧RelV p.2 q.2.2
theorem KT.val {H:Hp} {kvs:List (List Key × V)} {xs:List (List Key × Addr × Value)} (r:KT H kvs xs) (k:List Key):RelO (valV kvs k) ((atKey xs k).map (·.2)):=by
 induction r with
 | nil=>exact True.intro
 | @cons p q ps qs h t ih=>
  obtain ⟨h1,_,h2⟩:=h
  by_cases e:p.1=k
  ·have e':q.1=k:=h1.symm.trans e
   have b:atKey (q::qs) k=some q.2:=by simp [atKey,List.find?_cons,e']
   rw [q1d e,b];exact h2
  ·have e':¬ q.1=k:=fun z=>e (h1.trans z)
   have b:atKey (q::qs) k=atKey qs k:=by simp [atKey,List.find?_cons,e']
   rw [q1l e,b];exact ih
theorem KT.repl {H:Hp} {kvs:List (List Key × V)} {xs:List (List Key × Addr × Value)} (r:KT H kvs xs) (k:List Key) {y:V} {u:Value} (ry:RelV y u) :
  KT H (kvs.map fun kv=>if kv.1=k then (kv.1,y) else kv) (xs.map (putAt k u)):=by
 induction r with
 | nil=>exact .nil
 | @cons p q ps qs h t ih=>
  rw [List.map_cons,List.map_cons]
  refine .cons ?_ ih
  obtain ⟨h1,h2,h3⟩:=h
  unfold putAt
  by_cases e:p.1=k
  ·rw [if_pos e,if_pos (h1.symm.trans e)];exact ⟨h1,h2,ry⟩
  ·rw [if_neg e,if_neg (fun z=>e (h1.trans z))];exact ⟨h1,h2,h3⟩
theorem KT.put {H:Hp} {kvs:List (List Key × V)} {xs:List (List Key × Addr × Value)} (r:KT H kvs xs) (k:List Key) {b:Addr} {y:V} {u:Value} (hb:H b=some (.tup (k.map kV))) (ry:RelV y u) :
  KT H (putK kvs k y) (storedH xs k b u):=by
 have e:(kvs.any fun kv=>decide (kv.1=k))=(atKey xs k).isSome:=by
  rw [q28,(r.val k).isSome_eq,Option.isSome_map]
 unfold putK storedH
 rw [e]
 by_cases q:(atKey xs k).isSome=true
 ·rw [if_pos q,if_pos q];exact r.repl k ry
 ·rw [if_neg q,if_neg q];exact Paired.snoc r ⟨rfl,hb,ry⟩
theorem KT.keeps {H H':Hp} {kvs:List (List Key × V)} {xs:List (List Key × Addr × Value)} (r:KT H kvs xs) (ht:∀ b ys,H b=some (.tup ys)→H' b=some (.tup ys)):KT H' kvs xs:=
 Paired.mapP r fun _ _ z=>⟨z.1,ht _ _ z.2.1,z.2.2⟩
section
variable {P:Program} {w:World} {H:Hp} {h:Heap} {a:Addr}
theorem rd_of {u:HO} (ok:HOk P w H h) (e:Rd H a u):ObjOk P w H h a u:=e.ok ok
theorem dk_rd {kvs:List (Key × V)} (ok:HOk P w H h) (e:Rd H a (.dK kvs)):kvs.length≤sizeLine∧(a == sysModules)=false∧∃ vs,KV kvs vs∧h.DictOf (q14 P w) a vs:=
 show ObjOk P w H h a (.dK kvs) from rd_of ok e
theorem dk_of {kvs:List (Key × V)} (ok:HOk P w H h) (e:H a=some (.dK kvs)):kvs.length≤sizeLine∧(a == sysModules)=false∧∃ vs,KV kvs vs∧h.DictOf (q14 P w) a vs:=dk_rd ok (.inl e)
theorem q8p {ks:List Key} (ok:HOk P w H h) (e:H a=some (.tup (ks.map kV))):(tupleKind (q14 P w)).is h ks a:=by
 obtain ⟨_,its,r,o,h1,h2,n,h3⟩:=(show ObjOk P w H h a (.tup (ks.map kV)) from ok a _ e)
 exact ⟨o,its.toArray,n,h1,h2,h3,by simpa using q8g r⟩
theorem dt_rd {kvs:List (List Key × V)} (ok:HOk P w H h) (e:Rd H a (.dT kvs)):kvs.length≤sizeLine∧(a == sysModules)=false∧
  ∃ xs,KT H kvs xs∧h.DictOfH (tupleKind (q14 P w)) a xs:=by
 obtain ⟨z,y,xs,r,o,es,ep,h1,h2,h3,h4,h5⟩:=(show ObjOk P w H h a (.dT kvs) from rd_of ok e)
 refine ⟨z,y,xs,r,o,es,ep,h1,h2,h3,h4,fun x hx=>?_,h5⟩
 have all:∀ {l:List (List Key × V)} {m:List (List Key × Addr × Value)},KT H l m→∀ x∈m,(tupleKind (q14 P w)).is h x.1 x.2.1:=by
  intro l m q
  induction q with
  | nil=>intro x hx;exact nomatch hx
  | @cons p q ps qs hq t ih=>
   intro x hx
   rcases List.mem_cons.mp hx with e | hx
   ·subst e
    exact q8p ok (by rw [← hq.1];exact hq.2.1)
   ·exact ih x hx
 exact all r x hx
theorem dt_of {kvs:List (List Key × V)} (ok:HOk P w H h) (e:H a=some (.dT kvs)):kvs.length≤sizeLine∧(a == sysModules)=false∧
  ∃ xs,KT H kvs xs∧h.DictOfH (tupleKind (q14 P w)) a xs:=dt_rd ok (.inl e)
end
def DGet (H:Hp) (a:Addr) (y:V) (r:Option V):Prop:=
 (∃ kvs k,Rd H a (.dK kvs)∧y=kV k∧r=valV kvs k)∨∃ kvs k b,Rd H a (.dT kvs)∧y=.ref b∧H b=some (.tup (k.map kV))∧r=valV kvs k
def DPut (H:Hp) (a:Addr) (y v:V) (H':Hp):Prop:=
 (∃ kvs k,H a=some (.dK kvs)∧y=kV k∧kvs.length < sizeLine∧H'=upd H a (.dK (putK kvs k v)))∨
 ∃ kvs k b,H a=some (.dT kvs)∧y=.ref b∧H b=some (.tup (k.map kV))∧kvs.length < sizeLine∧H'=upd H a (.dT (putK kvs k v))
theorem DGet.k {H:Hp} {a:Addr} {kvs:List (Key × V)} {k:Key} (e:H a=some (.dK kvs)):DGet H a (kV k) (valV kvs k):=.inl ⟨kvs,k,.inl e,rfl,rfl⟩
theorem DPut.k {H:Hp} {a:Addr} {kvs:List (Key × V)} {k:Key} {v:V} (e:H a=some (.dK kvs)) (hl:kvs.length < sizeLine):DPut H a (kV k) v (upd H a (.dK (putK kvs k v))):=.inl ⟨kvs,k,e,rfl,hl,rfl⟩
section
variable {X:Cx} {pins:List (Addr × Obj)} {σ:St} {H:Hp} {s:Shared} {a:Addr} {y v:V} {u r:Value} {o:Option V} {A:Around} {E:Value→Shared→Prop}
theorem Inv.big (I:Inv X pins σ H s):sysModules < s.heap.objs.size:=by
 have h:mainGlobals < s.heap.objs.size:=(I.mod.glob.keeps I.bk).lt
 exact Nat.lt_trans (by decide) h
theorem d_getItem {Q:Value→Shared→Prop} (hu:A.units+1 < cLine) (I:Inv X pins σ H s) (g:DGet H a y (some v)) (ry:RelV y u) (h:∀ w' s',Inv X pins σ H s'→RelV v w'→Q w' s') :
  wpAny (model X.prog X.w) A (getItem (.ref a) u) Q E s:=by
 rcases g with ⟨kvs,k,e,ey,l⟩ | ⟨kvs,k,b,e,ey,eb,l⟩
 ·subst ey
  obtain ⟨z,hd,vs,rel,dd⟩:=dk_rd I.hok e
  obtain ⟨w',hw,rw'⟩:=RelO.some_of (v:=v) (o:=valueAt vs k) (by rw [l];exact rel.val k)
  exact wpAny_getItem_of (kV_is ry) dd.mapOf hw (h w' _ (I.tok _) rw')
 ·subst ey
  cases (show u=Value.ref b from ry)
  obtain ⟨z,hd,xs,rel,dd⟩:=dt_rd I.hok e
  obtain ⟨w',hw,rw'⟩:=RelO.some_of (v:=v) (o:=(atKey xs k).map (·.2)) (by rw [l];exact rel.val k)
  obtain ⟨p,hp,hp2⟩:=Option.map_eq_some_iff.mp hw
  refine wpAny_getItem_heap (tupleKind_room_in1 hu) (q8p I.hok eb) dd hp ?_
  rw [hp2]
  exact h w' _ (I.tok _) rw'
theorem d_notIn {Q:Value→Shared→Prop} (hu:A.units+1 < cLine) (I:Inv X pins σ H s) (g:DGet H a y o) (ry:RelV y u) (h:∀ s',Inv X pins σ H s'→Q (.bool (!o.isSome)) s') :
  wpAny (model X.prog X.w) A (compareOp .NotIn u (.ref a)) Q E s:=by
 rcases g with ⟨kvs,k,e,ey,l⟩ | ⟨kvs,k,b,e,ey,eb,l⟩
 ·subst ey
  obtain ⟨z,hd,vs,rel,dd⟩:=dk_rd I.hok e
  refine wpAny_notIn_of (kV_is ry) hd dd.mapOf ?_
  rw [← (rel.val k).isSome_eq,← l]
  exact h _ (I.tok _)
 ·subst ey
  cases (show u=Value.ref b from ry)
  obtain ⟨z,hd,xs,rel,dd⟩:=dt_rd I.hok e
  refine wpAny_notIn_heap (tupleKind_room_in1 hu) (q8p I.hok eb) hd dd ?_
  have q:=(rel.val k).isSome_eq
  rw [Option.isSome_map] at q
  rw [← q,← l]
  exact h _ (I.tok _)
theorem q9w {h':Heap} {t':Nat} {ob:HO} (I:Inv X pins σ H s) (mu:Mut (H a)) (hs:Heap.SameBut a s.heap h') (he:∃ q,h'.get? a=some q) (new:ObjOk X.prog X.w (upd H a ob) h' a ob) :
  Inv X pins σ (upd H a ob) { s with heap:=h',toks:=t' }:=
 I.write (x:=a) (e:=a) mu (.inl rfl) (fun b q hb z=>(hs.2 b hb).trans z) he new
theorem dk_new {P:Program} {w:World} {H':Hp} {h':Heap} {kvs:List (Key × V)} {vs:List (Key × Value)} (z:kvs.length≤sizeLine) (hd:(a == sysModules)=false) (rel:KV kvs vs) (dd:h'.DictOf (q14 P w) a vs) :
  ObjOk P w H' h' a (.dK kvs):=⟨z,hd,vs,rel,dd⟩
theorem d_setItem {H':Hp} {Q:Unit→Shared→Prop} (hu:A.units+1 < cLine) (I:Inv X pins σ H s) (g:DPut H a y v H') (ry:RelV y u) (rv:RelV v r) (h:∀ s',Inv X pins σ H' s'→Q () s') :
  wpAny (model X.prog X.w) A (setItem (.ref a) u r) Q E s:=by
 rcases g with ⟨kvs,k,e,ey,l,eH⟩ | ⟨kvs,k,b,e,ey,eb,l,eH⟩
 ·subst ey eH
  obtain ⟨z,hd,vs,rel,dd⟩:=dk_of I.hok e
  have hz:vs.length≤sizeLine:=by rw [← rel.length];exact z
  have hl:(putK kvs k v).length≤sizeLine:=by have:=q3w kvs k v;omega
  refine wpAny_setItem_pairs (hsz:=hz) (kV_is ry) dd fun h' dd' hs=>h _ ?_
  have he:∃ q,h'.get? a=some q:=let ⟨q,_,_,hq,_⟩:=dd';⟨q,hq⟩
  exact q9w I (by rw [e];exact True.intro) hs he (dk_new hl hd (rel.put k rv) dd')
 ·subst ey eH
  cases (show u=Value.ref b from ry)
  obtain ⟨z,hd,xs,rel,dd⟩:=dt_of I.hok e
  have hz:xs.length≤sizeLine:=by rw [← Paired.length rel];exact z
  have hl:(putK kvs k v).length≤sizeLine:=by have:=q3w kvs k v;omega
  refine wpAny_setItem_heap (hsz:=hz) (tupleKind_room_in1 hu) (q8p I.hok eb) dd fun h' dd' hs=>h _ ?_
  obtain ⟨q,es,ep,hq,h2,h3,h4,_,h5⟩:=dd'
  refine q9w I (by rw [e];exact True.intro) hs ⟨q,hq⟩ ⟨hl,hd,_,(rel.put k eb rv).keeps fun c ys ec=>?_,q,es,ep,hq,h2,h3,h4,h5⟩
  rw [q08 (q5q ec e (fun z=>nomatch z))]
  exact ec
end
section
variable {X:Cx} {pins:List (Addr × Obj)} {σ:St} {H:Hp} {s:Shared} {a:Addr} {kvs:List (Key × V)} {k:Key} {u:Value} {A:Around} {E:Value→Shared→Prop}
end
def NoSl (i:Expr):Prop:=∀ ov iv,subscripted i false ov iv=operate [ov,iv] (getItem ov iv)
theorem subD_of {prog:Program} {w:World} {A:Around} {E:Value→Shared→Prop} {s:Shared} {env:Env} {value slice:Expr} {pos:Pos} {T id:String} {Q:Value→Shared→Prop}
  (hl:typeLookup (.type T) "__getitem__" = pure (some (.builtin id))) (hs:NoSl slice)
  (h:wpAny (model prog w) A (eval value env) (fun o s₁=>wpAny (model prog w) A (eval slice env) (fun i s₂=>s₂.TypeIs o T∧wpAny (model prog w) A (getItem o i) Q E s₂) E s₁) E s) :
  wpAny (model prog w) A (eval (.Subscript value slice pos) env) Q E s:=by
 refine Subscript_ (wpAny_mono h (fun o s₁ h₁=>wpAny_mono h₁ (fun i s₂ h₂=>?_) fun _ _ x=>x) fun _ _ x=>x)
 obtain ⟨hT,h₂⟩:=h₂
 unfold subscriptTail
 refine wpAny_bind ?_
 rw [getitemInPython_of_ne hT.not_modules]
 refine wpAny_bind (wpAny_specialOf hT hl ?_)
 have fin:wpAny (model prog w) A (subscripted slice false o i) (fun r s₃=>wpAny (model prog w) A (letTemporaryGo value o r >>= fun _=>pure r) Q E s₃) E s₂:=by
  rw [hs o i]
  exact wpAny_operating (wpAny_mono h₂ (fun r s₃ h₃=>wpAny_bind (wpAny_letTemporaryGo (wpAny_pure h₃))) fun _ _ x=>x)
 first
  | exact wpAny_pure (wpAny_bind fin)
  | exact wpAny_bind (wpAny_pure (wpAny_bind fin))
  | exact wpAny_bind fin
theorem q9s {X:Cx} {pins:List (Addr × Obj)} {σ:St} {H:Hp} {s:Shared} {a:Addr} {y:V} {o:Option V} (I:Inv X pins σ H s) (g:DGet H a y o):s.TypeIs (.ref a) "dict" := by
 rcases g with ⟨kvs,k,e,_,_⟩ | ⟨kvs,k,b,e,_,_,_⟩
 ·obtain ⟨_,_,vs,_,dd⟩:=dk_rd I.hok e
  exact dd.typeIs
 ·obtain ⟨_,_,xs,_,dd⟩:=dt_rd I.hok e
  exact dd.typeIs
def tDGet (td ty:TE):TE:=fun σ H Q=>td σ H fun x H1=>ty σ H1 fun y H2=>∃ a v,x=.ref a∧DGet H2 a y (some v)∧Q v H2
def tDNotIn (ty td:TE):TE:=fun σ H Q=>ty σ H fun y H1=>td σ H1 fun x H2=>∃ a o,x=.ref a∧DGet H2 a y o∧Q (.bl (!o.isSome)) H2
def sDPut (td ty tv:TE):TS:=fun D σ H=>tv σ H fun v H1=>td σ H1 fun x H2=>ty σ H2 fun y H3=>∃ a H4,x=.ref a∧DPut H3 a y v H4∧D.nx σ H4
section
variable {X:Cx} {o i e value:Expr} {pos pos' tpos:Pos} {td ty tv:TE}
theorem q7e (hu:X.A.units+1 < cLine) (ho:PE X o td) (hi:PE X i ty) (hs:NoSl i):PE X (.Subscript o i pos) (tDGet td ty):=by
 intro pins s σ H Q I h
 refine subD_of PySem.F.slot_dict_getitem.lookup hs (thn (ho pins s σ H _ I h) fun u s1 ⟨x,H1,I1,rx,q1⟩=>thn (hi pins s1 σ H1 _ I1 q1) fun iv s2 ⟨y,H2,I2,ry,a,v,ex,g,q2⟩=>?_)
 subst ex
 obtain rfl:u=Value.ref a:=rx
 exact ⟨q9s I2 g,d_getItem hu I2 g ry fun w' s3 I3 rw'=>⟨v,H2,I3,rw',q2⟩⟩
theorem q60 (hu:X.A.units+1 < cLine) (hi:PE X i ty) (ho:PE X o td):PC X .NotIn i o (tDNotIn ty td):=by
 intro pins s σ H Q I h
 refine thn (hi pins s σ H _ I h) fun iv s1 ⟨y,H1,I1,ry,q1⟩=>thn (ho pins s1 σ H1 _ I1 q1) fun u s2 ⟨x,H2,I2,rx,a,ov,ex,g,q2⟩=>?_
 subst ex
 obtain rfl:u=Value.ref a:=rx
 exact d_notIn hu I2 g ry fun s3 I3=>⟨.bl (!ov.isSome),H2,I3,rfl,q2⟩
theorem z03 (hu:X.A.units+1 < cLine) (ho:PE X o td) (hi:PE X i ty) (hv:PE X value tv) (hs:swapsWith value (some (.Subscript o i pos')) pos.line X.env=pure false) :
  PS X (.Assign [.Subscript o i pos'] value pos) (sDPut td ty tv):=by
 intro pins s σ H D I h
 refine wpAny_Assign_Subscript (thn (hv pins s σ H _ I h) fun r s1 ⟨v,H1,I1,rv,q1⟩=>thn (ho pins s1 σ H1 _ I1 q1) fun u s2 ⟨x,H2,I2,rx,q2⟩=>thn (hi pins s2 σ H2 _ I2 q2) fun iv s3 ⟨y,H3,I3,ry,a,H4,ex,g,q3⟩=>?_) hs
 subst ex
 obtain rfl:u=Value.ref a:=rx
 exact d_setItem hu I3 g ry rv fun s4 I4=>⟨σ,H4,I4,q3⟩
end
theorem z1a {P:Program} {w:World} {H:Hp} (h:Heap) (hb:sysModules < h.objs.size):ObjOk P w H (h.push { cls:=.type "dict",data:=.dict #[] }) h.objs.size (.dK []):=
 ⟨Nat.zero_le _,beq_eq_false_iff_ne.mpr (Ne.symm (Nat.ne_of_lt hb)),[],.nil,Heap.DictOf.new h⟩
def tDNewK:TE:=fun _ H Q=>∀ p,H p=none→Q (.ref p) (upd H p (.dK []))
section
variable {X:Cx} {pos:Pos}
theorem pe_dnewK:PE X (.Dict [] [] pos) tDNewK:=fun pins s σ H Q I h=>
 wpAny_Dict_empty ⟨.ref s.heap.objs.size,_,I.laid (a:=s.heap.objs.size) (o:=.dK []) (t':=s.toks) (fun _ _ q=>Heap.get?_push_of_some _ q) (Nat.le_refl _) (z1a s.heap I.big),rfl,h _ (I.hok.fresh (Nat.le_refl _))⟩
end
def tPairs:List (TE × TE)→St→Hp→(List (V × V)→Hp→Prop)→Prop
 | [],_,H,Q=>Q [] H
 | (tk,tv)::r,σ,H,Q=>tk σ H fun x H1=>tv σ H1 fun y H2=>tPairs r σ H2 fun ps H3=>Q ((x,y)::ps) H3
abbrev VV:List (V × V)→List (Value × Value)→Prop:=Paired fun p q=>RelV p.1 q.1∧RelV p.2 q.2
def PPs (X:Cx) (pos:Pos) (keys:List (Option Expr)) (values:List Expr) (trs:List (TE × TE)):Prop:=
 ∀ (pins:List (Addr × Obj)) (s:Shared) (σ:St) (H:Hp) (Q:List (V × V)→Hp→Prop),Inv X pins σ H s→tPairs trs σ H Q→
  wpAny (model X.prog X.w) X.A (evalPairs (pairTrees keys values X.env pos)) (fun vs s'=>∃ ps H',Inv X pins σ H' s'∧VV ps vs∧Q ps H') X.xe s
theorem pps_nil {X:Cx} {pos:Pos}:PPs X pos [] [] []:=fun pins s σ H Q I h=>pairTrees_nil_walk ⟨[],H,I,.nil,h⟩
theorem z1d {X:Cx} {pos:Pos} {k v:Expr} {ks:List (Option Expr)} {vs:List Expr} {tk tv:TE} {trs:List (TE × TE)} (hk:PE X k tk) (hv:PE X v tv) (hr:PPs X pos ks vs trs) :
  PPs X pos (some k::ks) (v::vs) ((tk,tv)::trs):=fun pins s σ H Q I h=>
 pairTrees_cons_walk (thn (hk pins s σ H _ I h) fun u s1 ⟨x,H1,I1,rx,q1⟩=>thn (hv pins s1 σ H1 _ I1 q1) fun w2 s2 ⟨y,H2,I2,ry,q2⟩=>
  thn (hr pins s2 σ H2 _ I2 q2) fun ws s3 ⟨ps,H3,I3,rel,q3⟩=>⟨(x,y)::ps,H3,I3,.cons ⟨rx,ry⟩ rel,q3⟩)
def q5b (kvs more:List (Key × V)):List (Key × V):=more.foldl (fun acc kv=>putK acc kv.1 kv.2) kvs
theorem KV.merge:∀ {more:List (Key × V)} {rs:List (Key × Value)} {kvs:List (Key × V)} {vs:List (Key × Value)},KV more rs→KV kvs vs→KV (q5b kvs more) (merged vs rs):=by
 intro more rs kvs vs r
 unfold KV at r
 induction r generalizing kvs vs with
 | nil=>intro q;exact q
 | @cons p q ps qs h t ih=>
  intro r0
  have e:KV (putK kvs p.1 p.2) (stored vs q.1 q.2):=by
   have:=r0.put p.1 h.2
   rw [← h.1];exact this
  exact ih e
theorem q4l:∀ (more kvs:List (Key × V)),(q5b kvs more).length≤kvs.length+more.length
 | [],kvs=>by show kvs.length≤kvs.length+0;omega
 | p::r,kvs=>by
  have h1:=q4l r (putK kvs p.1 p.2)
  have h2:=q3w kvs p.1 p.2
  show (q5b (putK kvs p.1 p.2) r).length≤_
  rw [List.length_cons];omega
theorem q70 {P:Program} {w:World}:∀ {kvs:List (Key × V)} {ws:List (Value × Value)},VV (kvs.map fun kv=>(kV kv.1,kv.2)) ws→∃ rs,Carries (q14 P w) ws rs∧KV kvs rs
 | [],_,r=>by rw [List.map_nil] at r;cases r;exact ⟨[],True.intro,.nil⟩
 | p::kvs,_,r=>by
  rw [List.map_cons] at r
  cases r with
  | @cons a b as bs h t=>
   obtain ⟨rs,c,q⟩:=q70 (P:=P) (w:=w) t
   obtain ⟨b1,b2⟩:=b
   exact ⟨(p.1,b2)::rs,⟨kV_is h.1,rfl,c⟩,.cons ⟨rfl,h.2⟩ q⟩
def tDisp (trs:List (TE × TE)):TE:=fun σ H Q=>∀ p,H p=none→tPairs trs σ (upd H p (.dK [])) fun ps H2=>H2 p=some (.dK [])∧∃ kvs:List (Key × V),ps=kvs.map (fun kv=>(kV kv.1,kv.2))∧kvs.length≤15∧Q (.ref p) (upd H2 p (.dK (q5b [] kvs)))
theorem pe_disp {X:Cx} {pos:Pos} {keys:List (Option Expr)} {values:List Expr} {trs:List (TE × TE)} (h:PPs X pos keys values trs) (hall:keys.all (·.isSome)=true) (hl:keys.length=values.length) (h0:keys≠[])
  (h15:keys.length≤15):PE X (.Dict keys values pos) (tDisp trs):=by
 intro pins s σ H Q I q
 have hn:=I.hok.fresh (Nat.le_refl s.heap.objs.size)
 have I1:=I.laid (a:=s.heap.objs.size) (o:=.dK []) (h':=s.heap.push { cls:=.type "dict",data:=.dict #[] }) (t':=s.toks) (fun _ _ q=>Heap.get?_push_of_some _ q) (Nat.le_refl _) (z1a s.heap I.big)
 refine wpAny_Dict_walk (knd:=q14 X.prog X.w) hall hl h0 h15 (thn (h pins _ σ _ _ I1 (q _ hn)) fun ws s2 ⟨ps,H2,I2,rel,e,kvs,ep,lk,q2⟩=>?_)
 subst ep
 obtain ⟨rs,c,rk⟩:=q70 (P:=X.prog) (w:=X.w) rel
 obtain ⟨z,hd,vs0,r0,dd⟩:=dk_of I2.hok e
 cases r0
 refine ⟨rs,c,dd,fun h' dd' hs=>⟨.ref s.heap.objs.size,_,?_,rfl,q2⟩⟩
 have hz:(q5b [] kvs).length≤sizeLine:=by
  have h1:=q4l kvs []
  rw [List.length_nil] at h1
  rw [sizeLine_eq];omega
 have he:∃ q,h'.get? s.heap.objs.size=some q:=let ⟨q,_,_,hq,_⟩:=dd';⟨q,hq⟩
 exact q9w I2 (by rw [e];exact True.intro) hs he (dk_new hz hd (rk.merge .nil) dd')
structure M1 (X:Cx) (o:Expr) (m:Str) (apos:Pos) (e:Expr) (cpos:Pos):Prop where
 base:attributeBase o m X.env (eval o X.env)=eval o X.env
 few:((backTo cpos (starEach [e] X.env)).all (fun x=>!x.1) && (backToKw cpos (keywordEach [] X.env)).all (fun x=>x.1.isSome)
  && decide (([e]:List Expr).length+([]:List Keyword).length+(if ([]:List Keyword).isEmpty then 0 else 1) < 30))=true
 line:(apos.endLine == cpos.line)=true
 trees:backTo cpos (starEach [e] X.env)=[(false,eval e X.env)]
def IsD (H:Hp) (a:Addr):Prop:=(∃ kvs,Rd H a (.dK kvs))∨∃ kvs,Rd H a (.dT kvs)
theorem isD_at {X:Cx} {pins:List (Addr × Obj)} {σ:St} {H:Hp} {s:Shared} {a:Addr} (I:Inv X pins σ H s) (d:IsD H a) :
  s.TypeIs (.ref a) "dict" ∧ (∀ b,Value.ref a=.ref b→∃ ob,s.heap.get? b=some ob∧ob.dict=none)∧(a == sysModules)=false:=by
 rcases d with ⟨kvs,e⟩ | ⟨kvs,e⟩
 ·obtain ⟨_,hd,vs,_,dd⟩:=dk_rd I.hok e
  refine ⟨dd.typeIs,fun b q=>?_,hd⟩
  cases q
  obtain ⟨ob,_,_,h1,h2,_⟩:=dd
  exact ⟨ob,h1,h2.2.1⟩
 ·obtain ⟨_,hd,xs,_,dd⟩:=dt_rd I.hok e
  refine ⟨dd.typeIs,fun b q=>?_,hd⟩
  cases q
  obtain ⟨ob,_,_,h1,h2,_⟩:=dd
  exact ⟨ob,h1,h2.2.1⟩
section
variable {X:Cx} {pins:List (Addr × Obj)} {σ:St} {H:Hp} {s:Shared} {a:Addr} {y d:V} {u r:Value} {o:Option V} {A:Around} {E:Value→Shared→Prop}
theorem d_get1 {Q:Value→Shared→Prop} (hu:A.units+1 < cLine) (I:Inv X pins σ H s) (g:DGet H a y o) (ry:RelV y u) (h:∀ w' s',Inv X pins σ H s'→RelV (o.getD .non) w'→Q w' s') :
  wpAny (model X.prog X.w) A (call (.builtin "dict.get") [.ref a,u]) Q E s:=by
 rcases g with ⟨kvs,k,e,ey,l⟩ | ⟨kvs,k,b,e,ey,eb,l⟩
 ·subst ey
  obtain ⟨z,hd,vs,rel,dd⟩:=dk_rd I.hok e
  refine call_meetsIn PySem.F.slot_dict_get dd.typeIs PySem.F.entry_dict_get (PySem.F.args_dict_get_2 _ _) (meets_dict_get (q14 X.prog X.w) a (kV_is ry) hd) ⟨_,dd.mapOf,h _ _ (I.tok _) ?_⟩
  rw [l]
  exact (rel.val k).getD rfl
 ·subst ey
  cases (show u=Value.ref b from ry)
  obtain ⟨z,hd,xs,rel,dd⟩:=dt_rd I.hok e
  refine call_meetsIn PySem.F.slot_dict_get dd.typeIs PySem.F.entry_dict_get (PySem.F.args_dict_get_2 _ _) (meetsH_dict_get (tupleKind (q14 X.prog X.w)) a b hd) ⟨tupleKind_room_in1 hu,k,xs,q8p I.hok eb,dd,h _ _ (I.tok _) ?_⟩
  rw [l]
  exact (rel.val k).getD rfl
end
def tDGet1 (td ty:TE):TE:=fun σ H Q=>td σ H fun x H1=>∃ a,x=.ref a∧IsD H1 a∧ty σ H1 fun y H2=>∃ o,DGet H2 a y o∧Q (o.getD .non) H2
section
variable {X:Cx} {o e f:Expr} {apos cpos:Pos} {td ty tx:TE}
theorem pe_dget1 (hu:X.A.units+1 < cLine) (ho:PE X o td) (he:PE X e ty) (m:M1 X o "get" apos e cpos):PE X (.Call (.Attribute o "get" apos) [e] [] cpos) (tDGet1 td ty):=by
 intro pins s σ H Q I h
 refine wpAny_Call_method m.base m.few m.line PySem.F.plainAttrs_dict PySem.F.slot_dict_get PySem.F.type_dict_get (thn (ho pins s σ H _ I h) fun u s1 ⟨x,H1,I1,rx,a,ex,d,q1⟩=>?_)
 subst ex
 obtain rfl:u=Value.ref a:=rx
 obtain ⟨t1,t2,_⟩:=isD_at I1 d
 refine ⟨t1,t2,?_⟩
 rw [m.trees]
 refine Calls.callWith_builtin rfl (Calls.evalArgs_plain (Calls.spliced_cons (thn (he pins s1 σ H1 _ I1 q1) fun iv s2 ⟨y,H2,I2,ry,ov,g,q2⟩=>Calls.spliced_nil ?_)))
 exact d_get1 hu I2 g ry fun w' s3 I3 rw'=>⟨_,H2,I3,rw',q2⟩
end
section
variable {X:Cx} {pins:List (Addr × Obj)} {σ:St} {H:Hp} {s:Shared} {a:Addr} {kvs:List (Key × V)} {A:Around} {E:Value→Shared→Prop}
end
section
variable {X:Cx} {pins:List (Addr × Obj)} {σ:St} {H:Hp} {s:Shared} {a:Addr} {y:V} {u:Value} {A:Around} {E:Value→Shared→Prop}
end
end L2
namespace L2
open PySem PySem.Spec PyProof.Rows XL PySem.Calls
open Sem (wp)
theorem nolen_rev:typeLookup (.type "list_reverseiterator") "__len__" = pure none:=by rw [typeLookup_type,builtinLookup_eq_fast];kernel_rfl
theorem hint_rev:typeLookup (.type "list_reverseiterator") "__length_hint__" = pure (some (.builtin "list_reverseiterator.__length_hint__")):=by rw [typeLookup_type,builtinLookup_eq_fast];kernel_rfl
section
variable {prog:Program} {w:World} {A:Around} {E:Value→Shared→Prop} {s:Shared}
theorem rev_hint {r:Addr} {Q:Bool→Shared→Prop} (hT:s.TypeIs (.ref r) "list_reverseiterator") (h:Q false s):wpAny (model prog w) A (Builtin.List.listLengthHint (.ref r)) Q E s:=by
 unfold Builtin.List.listLengthHint
 refine wpAny_bind (wpAny_specialOf hT nolen_rev ?_)
 show wpAny _ A (specialOf (Value.ref r) (Str.ofString "__length_hint__") >>= _) _ _ _
 refine wpAny_bind (wpAny_specialOf hT hint_rev ?_)
 generalize hid:("list_reverseiterator.__length_hint__" : String)=id0
 wp_delta
 rw [show splitId id0=some ("list_reverseiterator", "__length_hint__") from by subst hid;decide +kernel]
 subst hid
 refine wpAny_bind (wpAny_isInstance (b:=true) hT (by rw [isSubtype_type];kernel_rfl) ?_)
 exact wpAny_pure h
theorem rev_extend {R:Result→Shared→Prop} {r l:Addr} {items:Array Value} (hh:A.handled=none) (hit:s.heap.IsRevIter r l ((items.size:Int) - 1)) (hl:s.heap.IsList l items) (hrl:l≠r) (S:Addr) (hSr:S≠r) (hSl:S≠l) (res:Value) (c₀:Nat) (hS:s.heap.get? S=some { cls:=.type "list",data:=.seq #[] c₀ })
  (hR:∀ h' tk acc' c',(∀ b o,b≠S→b≠r→s.heap.get? b=some o→h'.get? b=some o)→h'.get? S=some { cls:=.type "list",dict:=none,data:=.seq acc' c',slots:=#[] }→ItemsOf (fun i v=>items[items.size - 1 - i]?=some v) acc' items.size→R (.ok (.ret res)) { s with heap:=h',toks:=tk }) (hn:items.size≤sizeLine) :
  wpAny (model prog w) A.in1 (Builtin.List.listExtendWith (.ref S) (.ref r) res)
   (fun fin s'=>match fin with | .done f=>R (.ok f) s' | .again c'=>c'.quiet=true∧codeAny (model prog w) A c' R s') (fun e s'=>R (.error e) s') s:=by
 have hSf:S ∉ [r,l]:=by simp only [List.mem_cons,List.not_mem_nil,or_false,not_or];exact ⟨hSr,hSl⟩
 have W:=Walks.listRev (prog:=prog) (w:=w) (A:=A.in1) hh r l hrl items
 have st:(fun (i:Nat) (h:Heap)=>i≤items.size∧h.IsRevIter r l ((items.size:Int) - 1 - (i:Int))∧h.IsList l items) 0 s.heap:=⟨Nat.zero_le _,by simpa using hit,hl⟩
 have key:∀ (h:Heap) (c₁ tk:Nat),(fun (i:Nat) (h:Heap)=>i≤items.size∧h.IsRevIter r l ((items.size:Int) - 1 - (i:Int))∧h.IsList l items) 0 h→(∀ b o,b≠S→s.heap.get? b=some o→h.get? b=some o)→
   h.get? S=some { cls:=.type "list",data:=.seq #[] c₁ }→codeAny (model prog w) A (.builtin "list.extend.loop" ⟨[.ref S,.ref r,res],[]⟩) R { s with heap:=h,toks:=tk }:=by
  intro h c₁ tk hst hk hS₁
  refine codeAny_extend_loopS W.toS hn S hSf res items.size 0 _ #[] c₁ rfl (Nat.zero_le _) hst hS₁ (ItemsOf.nil _) fun s' acc' c' hm hS' hacc=>?_
  rw [Moved.eq_with hm]
  refine hR s'.heap s'.toks acc' c' (fun b o hb hb2 e=>hm.heap b o (fun hmem=>?_) (hk b o hb e)) hS' hacc
  rcases List.mem_cons.mp hmem with e' | hmem
  ·exact hb e'
  ·exact hb2 (List.mem_singleton.mp hmem)
 unfold Builtin.List.listExtendWith
 refine wpAny_bind (wpAny_typeOf (T := "list_reverseiterator") hit.typeIs ?_)
 have h1:Builtin.List.listSameRef (.ref S) (.ref r)=false:=by simp [Builtin.List.listSameRef,hSr]
 rw [if_neg (by rw [h1];decide)]
 refine wpAny_bind (W.self 0 _ _ _ st ?_)
 refine wpAny_bind (wpAny_holding (rev_hint hit.typeIs ?_))
 rw [if_neg (by decide)]
 exact wpAny_pure ⟨plainId_quiet PySem.F.plain_extend_loop _,key _ c₀ _ st (fun b o _ e=>e) hS⟩
theorem rev_call {r l:Addr} {items:Array Value} {Q:Value→Shared→Prop} (hh:A.handled=none) (hit:s.heap.IsRevIter r l ((items.size:Int) - 1)) (hl:s.heap.IsList l items) (hrl:l≠r) (hn:items.size≤sizeLine)
  (hQ:∀ h' tk acc' c',(∀ b o,b≠r→s.heap.get? b=some o→h'.get? b=some o)→h'.get? s.heap.objs.size=some { cls:=.type "list",dict:=none,data:=.seq acc' c',slots:=#[] }→ItemsOf (fun i v=>items[items.size - 1 - i]?=some v) acc' items.size→Q (.ref s.heap.objs.size) { s with heap:=h',toks:=tk }) :
  wpAny (model prog w) A (call (.type "list") [.ref r]) Q E s:=by
 refine callType_codes (Q₁:=fun obj s₁=>obj=.ref s.heap.objs.size∧s₁={ s with heap:=s.heap.push { cls:=.type "list",data:=.seq #[] } }) PySem.F.called_list (PySem.F.typeCall_list_1 _) PySem.F.entry_list_init
  (code_list_new _ ⟨rfl,rfl⟩) fun obj s₁ h₁=>?_
 obtain ⟨rfl,rfl⟩:=h₁
 have hS:(s.heap.push { cls:=.type "list",data:=.seq #[] }).get? s.heap.objs.size=some { cls:=.type "list",data:=.seq #[] }:=Heap.get?_push_size _ rfl
 have hr:r < s.heap.objs.size:=by obtain ⟨o,e,_⟩:=hit;exact Heap.lt_size e
 have hl':l < s.heap.objs.size:=by obtain ⟨o,e,_⟩:=hl;exact Heap.lt_size e
 have nr:s.heap.objs.size≠r:=Nat.ne_of_gt hr
 have nl:s.heap.objs.size≠l:=Nat.ne_of_gt hl'
 refine ⟨⟨_,hS,rfl⟩,PySem.F.args_list_init_2 _ _,?_⟩
 show wpAny _ _ (do let old ← Builtin.List.listItems (.ref s.heap.objs.size);Builtin.List.listUpdate (.ref s.heap.objs.size) (fun _=>#[]);letGo old.toList.reverse;Builtin.List.listExtendWith (.ref s.heap.objs.size) (.ref r) .none) _ _ _
 refine wpAny_bind ?_
 unfold Builtin.List.listItems
 refine wpAny_bind (wpAny_seqItems hS rfl (wpAny_pure ?_))
 show wpAny _ _ (updateSeq s.heap.objs.size (fun _=>#[]) >>= fun _=>letGo (#[]:Array Value).toList.reverse >>= fun _=>Builtin.List.listExtendWith (.ref s.heap.objs.size) (.ref r) .none) _ _ _
 refine wpAny_bind (wpAny_updateSeq hS rfl ?_)
 have hS₂:=Heap.get?_update_self (Obj.mapSeq (fun _=>(#[]:Array Value))) hS rfl
 have oth:∀ b o,b≠s.heap.objs.size→(s.heap.push { cls:=.type "list",data:=.seq #[] }).get? b=some o→((s.heap.push { cls:=.type "list",data:=.seq #[] }).update s.heap.objs.size (Obj.mapSeq (fun _=>(#[]:Array Value)))).get? b=some o:=
  fun b o hb e=>(Heap.get?_update_other _ _ (Ne.symm hb)).trans e
 refine wpAny_bind (wpAny_letGo ?_)
 refine rev_extend (A:=A.in1) (items:=items) hh (hit.at fun o e=>oth r o (Ne.symm nr) (Heap.get?_push_of_some _ e)) (hl.at fun o e=>oth l o (Ne.symm nl) (Heap.get?_push_of_some _ e)) hrl _ nr nl .none _ hS₂ (fun h' tk acc' c' hk hS' hacc=>?_) hn
 exact ⟨rfl,hQ h' tk acc' c' (fun b o hb e=>hk b o (Nat.ne_of_lt (Heap.lt_size e)) hb (oth b o (Nat.ne_of_lt (Heap.lt_size e)) (Heap.get?_push_of_some _ e))) hS' hacc⟩
end
theorem rev_vals {zs:List V} {its:List Value} {acc:Array Value} (r:Vals zs its) (h:ItemsOf (fun i v=>its.toArray[its.toArray.size - 1 - i]?=some v) acc its.toArray.size):acc.toList=its.reverse:=by
 obtain ⟨h1,h2⟩:=h
 have h1:acc.size=its.length:=by simpa using h1
 apply List.ext_getElem?
 intro j
 by_cases hj:j < its.length
 ·have hj':j < acc.size:=by omega
  have e:acc[j]?=some acc[j]:=Array.getElem?_eq_getElem hj'
  have q:=h2 j _ e
  rw [List.size_toArray] at q
  have q:its[its.length - 1 - j]?=some acc[j]:=by simpa using q
  rw [List.getElem?_reverse hj,q,Array.getElem?_toList,e]
 ·rw [List.getElem?_eq_none (by simp;omega),List.getElem?_eq_none (by simp;omega)]
theorem Vals.rev {xs:List V} {us:List Value} (h:Vals xs us):Vals xs.reverse us.reverse:=by
 induction h with
 | nil=>exact .nil
 | cons r t ih=>
  rw [List.reverse_cons,List.reverse_cons]
  exact ih.append (.cons r .nil)
theorem boot_rev:bootBuiltins "reversed" = some (.type "reversed"):=by decide +kernel
theorem q7h:bootBuiltins "list" = some (.type "list"):=by decide +kernel
theorem pe_listRev {X:Cx} {e:Expr} {te:TE} {p1 p2 pos1 pos2:Pos} (hc:X.calm=true) (hg1:Gl X "list") (hm1:X.mg "list" = none) (hg2:Gl X "reversed") (hm2:X.mg "reversed" = none) (he:PE X e te) (hs:starEach [e] X.env=[(false,eval e X.env)]:=by rfl)
  (hs2:starEach [.Call (.Name "reversed" p2) [e] [] pos2] X.env=[(false,eval (.Call (.Name "reversed" p2) [e] [] pos2) X.env)]:=by rfl) :
  PE X (.Call (.Name "list" p1) [.Call (.Name "reversed" p2) [e] [] pos2] [] pos1) (fun σ H Q=>te σ H fun x H1=>∃ a xs,x=.ref a∧SqL X.K H1 a xs∧∀ d,H1 d=none→Q (.ref d) (upd H1 d (.lst xs.reverse))):=by
 intro pins s σ H Q I h
 refine Call_ (q2s I hg1 hm1 q7h (PyProof.Rows.callWith_type1 (e:=.Call (.Name "reversed" p2) [e] [] pos2) (rest:=[]) ?_ hs2 rfl))
 rw [hs2]
 show wpAny _ _ (spliced ((false,eval (.Call (.Name "reversed" p2) [e] [] pos2) X.env)::[])) _ _ s
 refine Calls.spliced_cons (Call_ (q2s I hg2 hm2 boot_rev (PyProof.Rows.callWith_type1 (e:=e) (rest:=[]) ?_ hs rfl)))
 rw [hs]
 show wpAny _ _ (spliced ((false,eval e X.env)::[])) _ _ s
 refine Calls.spliced_cons (thn (he pins s σ H _ I h) fun u s1 ⟨x,H1,I1,r1,a,xs,ex,hx,q⟩=>?_)
 subst ex
 cases r1
 obtain ⟨its,rv,pl,hz⟩:=I1.list hx
 have hlen:=rv.length
 refine Calls.spliced_nil (call_reversed_list pl.isList ?_)
 refine Calls.spliced_nil ?_
 have I2:Inv X pins σ H1 { s1 with heap:=s1.heap.push (revObj a ((its.toArray.size:Int) - 1)) }:=I1.kept (t':=s1.toks) fun b o e=>Heap.get?_push_of_some _ e
 have hlt:a < s1.heap.objs.size:=by obtain ⟨o,e,_⟩:=pl.isList;exact Heap.lt_size e
 refine rev_call (items:=its.toArray) (I.ok.hd hc) ⟨_,Heap.get?_push_size _ rfl,rfl,rfl⟩ (pl.isList.push _) (Nat.ne_of_lt hlt) (by rw [List.size_toArray];omega) fun h' tk acc' c' hk hS hacc=>?_
 have fr:FpOk X pins H1 s1.heap.objs.size:=I1.fpOk (Nat.le_refl _) I1.fresh
 have I3:Inv X pins σ H1 { s1 with heap:=h',toks:=tk }:=Inv.turnedN (s:={ s1 with heap:=s1.heap.push (revObj a ((its.toArray.size:Int) - 1)) }) (h':=h') (t':=tk) (ch:=[s1.heap.objs.size]) I2 (fun b o hb e=>hk b o (fun z=>hb (by simp [z])) e) (fun b hb=>by
  have e:b=s1.heap.objs.size:=by simpa using hb
  rw [e]
  exact fr)
 have fr2:FpOk X pins H1 (s1.heap.push (revObj a ((its.toArray.size:Int) - 1))).objs.size:=I2.fpOk (Nat.le_refl _) I2.fresh
 obtain ⟨f0,f1,f2,f3,f4,f5⟩:=fr2
 refine ⟨.ref _,_,I3.track (o:=.lst xs.reverse) f0 ?_ f1 f4 f5 ⟨by rw [List.length_reverse];exact hz,its.reverse,c',rv.rev,?_⟩,rfl,q _ f0⟩
 ·cases q:X.s₀.heap.get? (s1.heap.push (revObj a ((its.toArray.size:Int) - 1))).objs.size with
  | none=>rfl
  | some o=>exact absurd (Nat.lt_of_lt_of_le (Heap.lt_size q) I2.sz) (Nat.lt_irrefl _)
 ·rw [← rev_vals rv hacc]
  rw [Array.toArray_toList]
  exact hS
end L2
namespace L2
open PySem PySem.Spec PyProof.Rows XL PySem.Calls
open Sem (wp)
abbrev q6m (h:Heap) (z TI TO T:Addr) (f:Bool):Prop:=
 h.get? z=some { cls:=.type "zip",dict:=none,data:=.fields #[rawInt (T:Int),.bool f,.bool false,.ref TI,.ref TO],slots:=#[] }
section
variable {prog:Program} {w:World} {A:Around} {E:Value→Shared→Prop} {s:Shared}
theorem q4r {a:Addr} {Q:Option Obj→Shared→Prop} (h:Q (s.heap.get? a) s):wpAny (model prog w) A (loadIfAlive a) Q E s:=fun _ _ _=>h
theorem z0m {z TI TO T:Addr} {f:Bool} {o:Obj} {Q:Bool→Shared→Prop} (hz:q6m s.heap z TI TO T f) (hT:s.heap.get? T=some o)
  (hQ:∀ h',q6m h' z TI TO T true→Heap.SameBut z s.heap h'→Q false { s with heap:=h' }):wpAny (model prog w) A (Builtin.SmallTypes.ownedTupleIsFree (.ref z)) Q E s:=by
 unfold Builtin.SmallTypes.ownedTupleIsFree
 refine wpAny_bind (wpAny_field hz rfl (x:=rawInt (T:Int)) rfl ?_)
 show wpAny _ _ (loadIfAlive ((T:Int)).toNat >>= _) _ _ _
 refine wpAny_bind (q4r ?_)
 rw [Int.toNat_natCast,hT]
 show wpAny _ _ (field (.ref z) 1 >>= _) _ _ _
 refine wpAny_bind (wpAny_field hz rfl (x:=.bool f) rfl ?_)
 cases f with
 | true=>
  rw [if_neg (by decide)]
  exact wpAny_pure (hQ s.heap hz (Heap.SameBut.refl _ _))
 | false=>
  rw [if_pos (by decide)]
  refine wpAny_bind (wpAny_setField_rec hz (by simp) fun h₁ hz₁ hs₁=>wpAny_pure ?_)
  exact hQ h₁ hz₁ hs₁
end
section
variable {prog:Program} {w:World} {A:Around} {E:Value→Shared→Prop} {s:Shared}
theorem q7a {z TI TO T i1 i2 l1 l2:Addr} {f:Bool} {o:Obj} {k1 k2:Nat} {xs ys:Array Value} {x y a b:Value} {Q:Value→Shared→Prop} (D:ZipApart z TI TO i1 i2 l1 l2)
  (hz:q6m s.heap z TI TO T f) (hT:s.heap.get? T=some o) (hTI:IsPair s.heap TI (.ref i1) (.ref i2))
  (h1:s.heap.IsListIter i1 l1 k1) (h2:s.heap.IsListIter i2 l2 k2) (hl1:s.heap.IsList l1 xs) (hl2:s.heap.IsList l2 ys) (hx:xs[k1]?=some x) (hy:ys[k2]?=some y)
  (hQ:∀ h',q6m h' z TI TO T true→h'.IsListIter i1 l1 (k1+1)→h'.IsListIter i2 l2 (k2+1)→IsPair h' s.heap.objs.size x y→h'.objs.size=s.heap.objs.size+1→
   (∀ c o,c≠z→c≠i1→c≠i2→s.heap.get? c=some o→h'.get? c=some o)→Q (.ref s.heap.objs.size) { s with heap:=h' }) :
  wpAny (model prog w) A (Builtin.«zip.__next__» ⟨[.ref z],[]⟩) (fun fin s'=>∃ v,fin=.done (.ret v)∧Q v s') E s:=by
 show wpAny _ _ (field (.ref z) 2 >>= _) _ _ _
 refine wpAny_bind (wpAny_field hz rfl (x:=.bool false) rfl ?_)
 show wpAny _ _ (field (.ref z) 3 >>= _) _ _ _
 refine wpAny_bind (wpAny_field hz rfl (x:=.ref TI) rfl ?_)
 refine wpAny_bind (wpAny_seqItems hTI rfl ?_)
 show wpAny _ _ (Builtin.SmallTypes.ownedTupleIsFree (.ref z) >>= _) _ _ _
 refine wpAny_bind (z0m hz hT fun h₁ hz₁ hs₁=>?_)
 simp only [Bool.false_eq_true,if_false]
 simp only [List.forIn_toArray,List.forIn_cons,List.forIn_nil]
 refine wpAny_bind (wpAny_bind (wpAny_bind (wpAny_holding ?_)))
 show wpAny _ _ (Builtin.SmallTypes.nextOf (.ref i1) >>= _) _ _ _
 refine wpAny_bind (wpAny_nextOf_list_item (h1.extBut hs₁.extBut D.i1z) (hl1.extBut hs₁.extBut D.l1z) hx fun h₂ h1₂ hs₂=>wpAny_pure ?_)
 refine wpAny_pure ?_
 refine wpAny_bind (wpAny_bind (wpAny_holding ?_))
 show wpAny _ _ (Builtin.SmallTypes.nextOf (.ref i2) >>= _) _ _ _
 refine wpAny_bind (wpAny_nextOf_list_item ((h2.extBut hs₁.extBut D.i2z).extBut hs₂.extBut D.i12.symm) ((hl2.extBut hs₁.extBut D.l2z).extBut hs₂.extBut D.l2i1) hy fun h₃ h2₃ hs₃=>wpAny_pure ?_)
 refine wpAny_pure (wpAny_pure ?_)
 refine wpAny_bind (wpAny_newTuple ?_ (by show 2≤sizeLine;decide))
 have hsz:h₃.objs.size=s.heap.objs.size:=by rw [hs₃.1,hs₂.1,hs₁.1]
 refine wpAny_pure ⟨_,rfl,?_⟩
 show Q (.ref h₃.objs.size) _
 have up:∀ c o,h₃.get? c=some o→(h₃.push { cls:=.type "tuple",data:=.seq #[x,y] }).get? c=some o:=fun c o e=>Heap.get?_push_of_some _ e
 have hTn:IsPair (h₃.push { cls:=.type "tuple",data:=.seq #[x,y] }) h₃.objs.size x y:=Heap.get?_push_size _ rfl
 have hz8:(h₃.push { cls:=.type "tuple",data:=.seq #[x,y] }).objs.size=s.heap.objs.size+1:=by rw [Heap.size_push,hsz]
 rw [hsz] at hTn ⊢
 exact hQ _ (up _ _ (hs₃.extBut _ _ D.i2z.symm (hs₂.extBut _ _ D.i1z.symm hz₁))) ((h1₂.extBut hs₃.extBut D.i12).at fun o e=>up _ o e) (h2₃.at fun o e=>up _ o e) hTn hz8 fun c o c1 c3 c4 e=>up c o (hs₃.extBut _ _ c4 (hs₂.extBut _ _ c3 (hs₁.extBut _ _ c1 e)))
theorem q9i {z TI TO T i1 i2 l1 l2:Addr} {f:Bool} {o:Obj} {k1 k2:Nat} {xs ys:Array Value} {Q:Fin→Shared→Prop} (hh:A.handled=none) (D:ZipApart z TI TO i1 i2 l1 l2)
  (hz:q6m s.heap z TI TO T f) (hT:s.heap.get? T=some o) (hTI:IsPair s.heap TI (.ref i1) (.ref i2))
  (h1:s.heap.IsListIter i1 l1 k1) (hl1:s.heap.IsList l1 xs) (hx:xs[k1]?=none)
  (hE:∀ h' e,(∀ c o,c≠z→c≠i1→s.heap.get? c=some o→h'.get? c=some o)→(∃ o,h'.get? e=some o∧o.cls=.type "StopIteration")→E (.ref e) { s with heap:=h' }) :
  wpAny (model prog w) A (Builtin.«zip.__next__» ⟨[.ref z],[]⟩) Q E s:=by
 show wpAny _ _ (field (.ref z) 2 >>= _) _ _ _
 refine wpAny_bind (wpAny_field hz rfl (x:=.bool false) rfl ?_)
 show wpAny _ _ (field (.ref z) 3 >>= _) _ _ _
 refine wpAny_bind (wpAny_field hz rfl (x:=.ref TI) rfl ?_)
 refine wpAny_bind (wpAny_seqItems hTI rfl ?_)
 show wpAny _ _ (Builtin.SmallTypes.ownedTupleIsFree (.ref z) >>= _) _ _ _
 refine wpAny_bind (z0m hz hT fun h₁ hz₁ hs₁=>?_)
 simp only [Bool.false_eq_true,if_false]
 simp only [List.forIn_toArray,List.forIn_cons,List.forIn_nil]
 refine wpAny_bind (wpAny_bind (wpAny_bind (wpAny_holding ?_)))
 show wpAny _ _ (Builtin.SmallTypes.nextOf (.ref i1) >>= _) _ _ _
 refine wpAny_bind (wpAny_nextOf_list_end hh (h1.extBut hs₁.extBut D.i1z) (hl1.extBut hs₁.extBut D.l1z) hx fun h₂ e hs₂ he=>?_)
 exact hE h₂ e (fun c o c1 c3 x=>hs₂ _ _ c3 (hs₁.extBut _ _ c1 x)) he
def ZSt (z TI TO i1 i2 l1 l2:Addr) (i:Nat) (h:Heap):Prop:=
 IsPair h TI (.ref i1) (.ref i2)∧h.IsListIter i1 l1 i∧h.IsListIter i2 l2 i∧(∃ a b,IsPair h TO a b)∧((i=0∧IsZip h z TI TO .none)∨∃ T f a b,q6m h z TI TO T f∧IsPair h T a b∧T≠TO)
theorem ZSt.typeIs {z TI TO i1 i2 l1 l2:Addr} {i:Nat} (st:ZSt z TI TO i1 i2 l1 l2 i s.heap):s.TypeIs (.ref z) "zip" := by
 rcases st.2.2.2.2 with ⟨_,hz⟩ | ⟨T,f,_,_,hz,_⟩
 ·exact ⟨_,hz,rfl⟩
 ·exact ⟨_,hz,rfl⟩
theorem q16 {h:Heap} {a b:Addr} {o p:Obj} {n m:String} (ea:h.get? a=some o) (eb:h.get? b=some p) (ca:o.cls=.type n) (cb:p.cls=.type m) (nm:n≠m):a≠b:=fun q=>by
 subst q
 rw [ea] at eb
 cases eb
 rw [ca] at cb
 cases cb
 exact nm rfl
theorem q8y {z TI TO i1 i2 l1 l2:Addr} {i:Nat} {xs ys:Array Value} {h:Heap} (st:ZSt z TI TO i1 i2 l1 l2 i h) (n12:i1≠i2) (nT:TI≠TO) (q1:h.IsList l1 xs) (q2:h.IsList l2 ys):ZipApart z TI TO i1 i2 l1 l2:=by
 obtain ⟨hTI,h1,h2,⟨a,b,hTO⟩,hz⟩:=st
 obtain ⟨oz,ez,cz⟩:∃ o,h.get? z=some o∧o.cls=.type "zip" := by
  rcases hz with ⟨_,hz⟩ | ⟨T,f,_,_,hz,_⟩
  ·exact ⟨_,hz,rfl⟩
  ·exact ⟨_,hz,rfl⟩
 obtain ⟨o1,e1,c1,d1⟩:=h1
 obtain ⟨o2,e2,c2,d2⟩:=h2
 obtain ⟨p1,g1,cc1,n1,dd1⟩:=q1
 obtain ⟨p2,g2,cc2,n2,dd2⟩:=q2
 exact ⟨q16 hTI ez rfl cz (by decide),q16 hTO ez rfl cz (by decide),q16 e1 ez c1 cz (by decide),q16 e2 ez c2 cz (by decide),nT,q16 hTI e1 rfl c1 (by decide),q16 hTI e2 rfl c2 (by decide),q16 hTO e1 rfl c1 (by decide),q16 hTO e2 rfl c2 (by decide),n12,
  q16 g1 ez cc1 cz (by decide),q16 g1 hTO cc1 rfl (by decide),q16 g1 e1 cc1 c1 (by decide),q16 g1 e2 cc1 c2 (by decide),q16 g2 ez cc2 cz (by decide),q16 g2 hTO cc2 rfl (by decide),q16 g2 e1 cc2 c1 (by decide),q16 g2 e2 cc2 c2 (by decide)⟩
theorem ZSt.keep {z TI TO i1 i2 l1 l2 S:Addr} {i:Nat} {h h':Heap} {oS:Obj} (st:ZSt z TI TO i1 i2 l1 l2 i h) (hS:h.get? S=some oS) (cS:oS.cls=.type "list") (k:∀ b o,b≠S→h.get? b=some o→h'.get? b=some o):ZSt z TI TO i1 i2 l1 l2 i h':=by
 obtain ⟨hTI,h1,h2,⟨a,b,hTO⟩,hz⟩:=st
 obtain ⟨o1,e1,c1,d1⟩:=id h1
 obtain ⟨o2,e2,c2,d2⟩:=id h2
 refine ⟨k _ _ (q16 hTI hS rfl cS (by decide)) hTI,h1.at fun o e=>k _ o (q16 e1 hS c1 cS (by decide)) e,h2.at fun o e=>k _ o (q16 e2 hS c2 cS (by decide)) e,⟨a,b,k _ _ (q16 hTO hS rfl cS (by decide)) hTO⟩,?_⟩
 rcases hz with ⟨e,hz⟩ | ⟨T,f,x,y,hz,hT,n⟩
 ·exact .inl ⟨e,k _ _ (q16 hz hS rfl cS (by decide)) hz⟩
 ·exact .inr ⟨T,f,x,y,k _ _ (q16 hz hS rfl cS (by decide)) hz,k _ _ (q16 hT hS rfl cS (by decide)) hT,n⟩
theorem zip_step {z TI TO i1 i2 l1 l2:Addr} {i:Nat} {xs ys:Array Value} {x y:Value} {Q:Option Value→Shared→Prop} (D:ZipApart z TI TO i1 i2 l1 l2) (st:ZSt z TI TO i1 i2 l1 l2 i s.heap) (hlt:TO < s.heap.objs.size)
  (hl1:s.heap.IsList l1 xs) (hl2:s.heap.IsList l2 ys) (hx:xs[i]?=some x) (hy:ys[i]?=some y)
  (hQ:∀ h',ZSt z TI TO i1 i2 l1 l2 (i+1) h'→IsPair h' s.heap.objs.size x y→h'.objs.size=s.heap.objs.size+1→(∀ c o,c≠z→c≠TO→c≠i1→c≠i2→s.heap.get? c=some o→h'.get? c=some o)→Q (some (.ref s.heap.objs.size)) { s with heap:=h' }) :
  wpAny (model prog w) A (pyNext (.ref z)) Q E s:=by
 obtain ⟨hTI,h1,h2,⟨a,b,hTO⟩,h⟩:=id st
 rcases h with ⟨rfl,hz⟩ | ⟨T,f,xo,yo,hz,hT,t4⟩
 ·refine wpAny_pyNext_zip_item D hz hTI hTO h1 h2 hl1 hl2 hx hy fun h' a1 a2 a3 a4 a5 a6 kk=>?_
  exact hQ h' ⟨kk _ _ D.TIz D.TITO D.TIi1 D.TIi2 hTI,a3,a4,⟨_,_,a2⟩,.inr ⟨s.heap.objs.size,false,_,_,a1,a5,Nat.ne_of_gt hlt⟩⟩ a5 a6 kk
 ·obtain ⟨o1,e1,c1,d1⟩:=id h1
  obtain ⟨o2,e2,c2,d2⟩:=id h2
  have t1:T≠z:=q16 hT hz rfl rfl (by decide)
  have t2:T≠i1:=q16 hT e1 rfl c1 (by decide)
  have t3:T≠i2:=q16 hT e2 rfl c2 (by decide)
  have hTy:s.TypeIs (.ref z) "zip" := ⟨_,hz,rfl⟩
  unfold pyNext
  refine wpAny_bind (wpAny_attempt (wpAny_callSpecial?_slot (name:=Str.ofString "__next__") hTy F.slot_zip_next
   (wpAny_call_entry F.slot_zip_next hTy F.entry_zip_next
    (q7a (a:=.none) (b:=.none) D hz hT hTI h1 h2 hl1 hl2 hx hy fun h' a1 a3 a4 a5 a6 kk=>wpAny_pure ?_) (F.args_zip_next_1 _))))
  exact hQ h' ⟨kk _ _ D.TIz D.TIi1 D.TIi2 hTI,a3,a4,⟨a,b,kk _ _ D.TOz D.TOi1 D.TOi2 hTO⟩,.inr ⟨T,true,xo,yo,a1,kk _ _ t1 t2 t3 hT,t4⟩⟩ a5 a6 fun c o c1 _ c3 c4 e=>kk c o c1 c3 c4 e
theorem zip_stop {z TI TO i1 i2 l1 l2:Addr} {i:Nat} {xs ys:Array Value} {Q:Option Value→Shared→Prop} (hh:A.handled=none) (D:ZipApart z TI TO i1 i2 l1 l2) (st:ZSt z TI TO i1 i2 l1 l2 i s.heap) (hl1:s.heap.IsList l1 xs) (hl2:s.heap.IsList l2 ys) (hx:xs[i]?=none)
  (hQ:∀ h',(∀ c o,c≠z→c≠TO→c≠i1→c≠i2→s.heap.get? c=some o→h'.get? c=some o)→Q none { s with heap:=h' }):wpAny (model prog w) A (pyNext (.ref z)) Q E s:=by
 obtain ⟨hTI,h1,h2,⟨a,b,hTO⟩,h⟩:=id st
 rcases h with ⟨rfl,hz⟩ | ⟨T,f,xo,yo,hz,hT,t4⟩
 ·exact wpAny_pyNext_zip_end hh D hz hTI hTO h1 h2 hl1 hl2 (.inl hx) hQ
 ·have hTy:s.TypeIs (.ref z) "zip" := ⟨_,hz,rfl⟩
  unfold pyNext
  refine wpAny_bind (wpAny_attempt (wpAny_callSpecial?_slot (name:=Str.ofString "__next__") hTy F.slot_zip_next
   (wpAny_call_entry F.slot_zip_next hTy F.entry_zip_next (q9i (k2:=0) (ys:=#[]) hh D hz hT hTI h1 hl1 hx fun h' e hk he=>?_) (F.args_zip_next_1 _))))
  obtain ⟨oe,ho,hc⟩:=he
  refine wpAny_bind (wpAny_isInstance (T := "StopIteration") (b:=true) ⟨oe,ho,hc⟩ isSubtype_stop ?_)
  exact wpAny_pure (hQ _ fun c o c1 _ c3 _ e=>hk c o c1 c3 e)
end
def ZP (H H':Hp) (ts xs ys:List V):Prop:=ts.length=xs.length∧∀ (j:Nat) x y,xs[j]?=some x→ys[j]?=some y→∃ T,ts[j]?=some (.ref T)∧H T=none∧H' T=some (.tup [x,y])
theorem zip_loop {X:Cx} {pins:List (Addr × Obj)} {σ:St} {R:Result→Shared→Prop} {A:Around} {xs ys:List V} {l1 l2 z TI TO i1 i2 S:Addr} {res:Value} {H0:Hp} (hh:A.in1.handled=none) (n12:i1≠i2) (nT:TI≠TO) (hSf:S ∉ [z,TI,TO,i1,i2]) (hx:SqL X.K H0 l1 xs) (hy:SqL X.K H0 l2 ys) (hxy:xs.length=ys.length) (hn:xs.length≤sizeLine) :
  ∀ (k i:Nat) (s:Shared) (H:Hp) (acc:Array Value) (c:Nat) (ts:List V),xs.length - i=k→i≤xs.length→Inv X pins σ H s→Same H0 H→(∀ b∈[S,z,TI,TO,i1,i2],FpOk X pins H b∧b < s.heap.objs.size)→ZSt z TI TO i1 i2 l1 l2 i s.heap→
   s.heap.get? S=some { cls:=.type "list",dict:=none,data:=.seq acc c,slots:=#[] }→Vals ts acc.toList→ts.length=i→(∀ (j:Nat) x y,j < i→xs[j]?=some x→ys[j]?=some y→∃ T,ts[j]?=some (.ref T)∧H0 T=none∧H T=some (.tup [x,y]))→
   (∀ s' H' acc' c' ts',Inv X pins σ H' s'→Same H0 H'→FpOk X pins H' S→s'.heap.get? S=some { cls:=.type "list",dict:=none,data:=.seq acc' c',slots:=#[] }→Vals ts' acc'.toList→ZP H0 H' ts' xs ys→R (.ok (.ret res)) s')→
   codeAny (model X.prog X.w) A (.builtin "list.extend.loop" ⟨[.ref S,.ref z,res],[]⟩) R s:=by
 intro k
 induction k with
 | zero=>
  intro i s H acc c ts hk hi I sm hf st hS hv htl hts hR
  have hin:i=xs.length:=by omega
  obtain ⟨its1,rv1,p1,hz1⟩:=I.list (hx.same sm)
  obtain ⟨its2,rv2,p2,hz2⟩:=I.list (hy.same sm)
  refine codeAny_builtin F.entry_extend_loop ?_
  rw [Around.under_plainId F.plain_extend_loop _]
  show wpAny _ A.in1 (pyNext (.ref z) >>= _) _ _ s
  have D:=q8y st n12 nT p1.isList p2.isList
  refine wpAny_bind (zip_stop hh D st p1.isList p2.isList (by have:=rv1.length;simp;omega) fun h' kk=>?_)
  have I1:Inv X pins σ H { s with heap:=h' }:=I.turnedN (t':=s.toks) (ch:=[z,TO,i1,i2]) (fun b o hb e=>kk b o (fun q=>hb (by simp [q])) (fun q=>hb (by simp [q])) (fun q=>hb (by simp [q])) (fun q=>hb (by simp [q])) e) fun b hb=>(hf b (by simp at hb ⊢;rcases hb with h | h | h | h <;> simp [h])).1
  have n1:S≠z:=fun q=>hSf (by simp [q])
  have n2:S≠TO:=fun q=>hSf (by simp [q])
  have n3:S≠i1:=fun q=>hSf (by simp [q])
  have n4:S≠i2:=fun q=>hSf (by simp [q])
  refine wpAny_pure (hR _ H acc c ts I1 sm (hf S (by simp)).1 (kk _ _ n1 n2 n3 n4 hS) hv ⟨by omega,fun j x y hj1 hj2=>hts j x y ?_ hj1 hj2⟩)
  have:=(List.getElem?_eq_some_iff.mp hj1).1
  omega
 | succ k ih=>
  intro i s H acc c ts hk hi I sm hf st hS hv htl hts hR
  have hlt:i < xs.length:=by omega
  obtain ⟨its1,rv1,p1,hz1⟩:=I.list (hx.same sm)
  obtain ⟨its2,rv2,p2,hz2⟩:=I.list (hy.same sm)
  obtain ⟨x,hxi⟩:∃ x,xs[i]?=some x:=⟨_,List.getElem?_eq_getElem hlt⟩
  obtain ⟨y,hyi⟩:∃ y,ys[i]?=some y:=⟨_,List.getElem?_eq_getElem (by omega)⟩
  obtain ⟨u1,hu1,ru1⟩:=rv1.get hxi
  obtain ⟨u2,hu2,ru2⟩:=rv2.get hyi
  refine codeAny_builtin F.entry_extend_loop ?_
  rw [Around.under_plainId F.plain_extend_loop _]
  show wpAny _ A.in1 (pyNext (.ref z) >>= _) _ _ s
  have D:=q8y st n12 nT p1.isList p2.isList
  have lz:=fun b hb=>(hf b hb).2
  refine wpAny_bind (zip_step D st (lz TO (by simp)) p1.isList p2.isList (x:=u1) (y:=u2) (by simpa using hu1) (by simpa using hu2) fun h' st' hp hsz kk=>?_)
  have I1:Inv X pins σ H { s with heap:=h' }:=I.turnedN (t':=s.toks) (ch:=[z,TO,i1,i2]) (fun b o hb e=>kk b o (fun q=>hb (by simp [q])) (fun q=>hb (by simp [q])) (fun q=>hb (by simp [q])) (fun q=>hb (by simp [q])) e) fun b hb=>(hf b (by simp at hb ⊢;rcases hb with h | h | h | h <;> simp [h])).1
  have fr:FpOk X pins H s.heap.objs.size:=I.fpOk (Nat.le_refl _) I.fresh
  have I2:Inv X pins σ (upd H s.heap.objs.size (.tup [x,y])) { s with heap:=h' }:=I1.trackTup (its:=[u1,u2]) fr (by
    cases q:X.s₀.heap.get? s.heap.objs.size with
    | none=>rfl
    | some o=>exact absurd (Nat.lt_of_lt_of_le (Heap.lt_size q) I.sz) (Nat.lt_irrefl _)) (by show 2≤sizeLine;rw [sizeLine_eq];decide) (.cons ru1 (.cons ru2 .nil)) ⟨_,hp,rfl,0,rfl⟩
  have n1:S≠z:=fun q=>hSf (by simp [q])
  have n2:S≠TO:=fun q=>hSf (by simp [q])
  have n3:S≠i1:=fun q=>hSf (by simp [q])
  have n4:S≠i2:=fun q=>hSf (by simp [q])
  have hS':=kk _ _ n1 n2 n3 n4 hS
  have hf2:∀ b∈[S,z,TI,TO,i1,i2],FpOk X pins (upd H s.heap.objs.size (.tup [x,y])) b:=fun b hb=>by
   obtain ⟨⟨f0,f1,f2,f3,f4,f5⟩,hl⟩:=hf b hb
   exact ⟨by rw [q08 (Nat.ne_of_lt hl)];exact f0,f1,f2,f3,f4,f5⟩
  show wpAny _ A.in1 (updateSeq S (·.push (.ref s.heap.objs.size)) >>= _) _ _ _
  refine wpAny_bind ?_
  have hacc:acc.size=i:=by
   have h1:=hv.length
   have h2:acc.toList.length=acc.size:=Array.length_toList
   omega
  have oth:∀ b o,b≠S→h'.get? b=some o→(h'.update S (Obj.mapSeq (·.push (.ref s.heap.objs.size)))).get? b=some o:=fun b o hb e=>(Heap.get?_update_other _ _ (Ne.symm hb)).trans e
  have mS:∀ b∈[z,TI,TO,i1,i2],b≠S:=fun b hb q=>hSf (q ▸ hb)
  refine wpAny_updateSeq hS' rfl (wpAny_pure ⟨plainId_quiet F.plain_extend_loop _,ih (i+1) _ (upd H s.heap.objs.size (.tup [x,y])) (acc.push (.ref s.heap.objs.size)) _ (ts++[.ref s.heap.objs.size]) (by omega) hlt ?_ ?_ ?_ ?_ (Heap.get?_update_self _ hS' rfl) ?_ (by rw [List.length_append,htl];rfl) ?_ hR⟩)
   (by rw [hacc];omega) (by show (acc.push _).size≤sizeLine+1;rw [Array.size_push,hacc];omega)
  ·exact I2.turnedN (t':=s.toks) (ch:=[S]) (fun b o hb e=>oth b o (fun q=>hb (by simp [q])) e) fun b hb=>by
    rw [List.mem_singleton.mp hb]
    exact hf2 S (by simp)
  ·exact fun b o e=>by rw [q08 (q05 (sm _ _ e) fr.1)];exact sm _ _ e
  ·intro b hb
   refine ⟨hf2 b hb,?_⟩
   have h1:=(hf b hb).2
   have h2:(h'.update S (Obj.mapSeq (·.push (.ref s.heap.objs.size)))).objs.size=h'.objs.size:=(Heap.SameBut.update ..).1
   show b < (h'.update S (Obj.mapSeq (·.push (.ref s.heap.objs.size)))).objs.size
   rw [h2,hsz]
   exact Nat.lt_succ_of_lt h1
  ·exact st'.keep hS' rfl oth
  ·rw [Array.toList_push]
   exact hv.append (.cons rfl .nil)
  ·intro j x' y' hj hj1 hj2
   by_cases hji:j < i
   ·obtain ⟨T,e1,e2,e3⟩:=hts j x' y' hji hj1 hj2
    refine ⟨T,by rw [List.getElem?_append_left (by omega)];exact e1,e2,by rw [q08 (q05 e3 fr.1)];exact e3⟩
   ·obtain rfl:j=i:=by omega
    rw [hxi] at hj1
    rw [hyi] at hj2
    cases hj1
    cases hj2
    refine ⟨s.heap.objs.size,by rw [List.getElem?_append_right (by omega),htl,Nat.sub_self];rfl,?_,q01⟩
    exact sm.free fr.1
theorem nolen_zip:typeLookup (.type "zip") "__len__" = pure none:=by rw [typeLookup_type,builtinLookup_eq_fast];kernel_rfl
theorem nohint_zip:typeLookup (.type "zip") "__length_hint__" = pure none:=by rw [typeLookup_type,builtinLookup_eq_fast];kernel_rfl
theorem pe_listZip {X:Cx} {a b:Expr} {ta:TA} {p1 p2 pos1 pos2:Pos} (hc:X.calm=true) (hg1:Gl X "list") (hm1:X.mg "list" = none) (hg2:Gl X "zip") (hm2:X.mg "zip" = none) (ha:PA X [a,b] ta) (hs:starEach [a,b] X.env=[(false,eval a X.env),(false,eval b X.env)]:=by rfl) (hs2:starEach [b] X.env=[(false,eval b X.env)]:=by rfl)
  (hs3:starEach [.Call (.Name "zip" p2) [a,b] [] pos2] X.env=[(false,eval (.Call (.Name "zip" p2) [a,b] [] pos2) X.env)]:=by rfl) :
  PE X (.Call (.Name "list" p1) [.Call (.Name "zip" p2) [a,b] [] pos2] [] pos1) (fun σ H Q=>ta σ H fun vs H1=>∃ l1 l2 xs ys,vs=[.ref l1,.ref l2]∧SqL X.K H1 l1 xs∧SqL X.K H1 l2 ys∧xs.length=ys.length∧∀ (H':Hp) (ts:List V) (d:Addr),Same H1 H'→ZP H1 H' ts xs ys→H' d=none→H1 d=none→Q (.ref d) (upd H' d (.lst ts))):=by
 intro pins s σ H Q I h
 refine Call_ (q2s I hg1 hm1 q7h (PyProof.Rows.callWith_type1 (e:=.Call (.Name "zip" p2) [a,b] [] pos2) (rest:=[]) ?_ hs3 rfl))
 rw [hs3]
 show wpAny _ _ (spliced ((false,eval (.Call (.Name "zip" p2) [a,b] [] pos2) X.env)::[])) _ _ s
 refine Calls.spliced_cons (Call_ (q2s I hg2 hm2 boot_zip (PyProof.Rows.callWith_type1 (thn (ha pos2 pins s σ H _ I h) fun us s1 ⟨vs,H1,I1,r1,q1⟩=>?_) (by rw [hs,hs2]) (by rw [hs2];rfl))))
 obtain ⟨l1,l2,xs,ys,e,hx,hy,hxy,q⟩:=q1
 subst e
 cases r1 with
 | cons r rr=>
  cases rr with
  | cons r' rr=>
   cases rr
   cases r
   cases r'
   obtain ⟨its1,rv1,p1,hz1⟩:=I1.list hx
   obtain ⟨its2,rv2,p2,hz2⟩:=I1.list hy
   refine call_zip_2 p1.isList p2.isList fun h' a1 a2 a3 a4 a5 a6 kk=>Calls.spliced_nil ?_
   have I2:Inv X pins σ H1 { s1 with heap:=h' }:=I1.kept (t':=s1.toks) kk
   obtain ⟨s2,es2⟩:∃ s2,s2={ s1 with heap:=h' }:=⟨_,rfl⟩
   rw [← es2] at I2 ⊢
   obtain ⟨z,ez⟩:∃ z,z=s1.heap.objs.size+4:=⟨_,rfl⟩
   obtain ⟨TI,eTI⟩:∃ z,z=s1.heap.objs.size+2:=⟨_,rfl⟩
   obtain ⟨TO,eTO⟩:∃ z,z=s1.heap.objs.size+3:=⟨_,rfl⟩
   obtain ⟨i1,e1⟩:∃ z,z=s1.heap.objs.size:=⟨_,rfl⟩
   obtain ⟨i2,e2⟩:∃ z,z=s1.heap.objs.size+1:=⟨_,rfl⟩
   have hfp:∀ b∈[z,TI,TO,i1,i2],FpOk X pins H1 b∧b < s2.heap.objs.size:=fun b hb=>by
    have hb':s1.heap.objs.size≤b∧b < s1.heap.objs.size+5:=by
     simp at hb
     rcases hb with rfl | rfl | rfl | rfl | rfl <;> omega
    refine ⟨I1.fpOk hb'.1 (I1.hok.fresh hb'.1),?_⟩
    rw [es2]
    show b < h'.objs.size
    rw [a6]
    exact hb'.2
   have n12:i1≠i2:=by omega
   have nT:TI≠TO:=by omega
   have st0:ZSt z TI TO i1 i2 l1 l2 0 s2.heap:=by
    rw [es2,ez,eTI,eTO,e1,e2]
    exact ⟨a2,a4,a5,⟨_,_,a3⟩,.inl ⟨rfl,a1⟩⟩
   rw [← ez]
   have hzN:IsZip s2.heap z TI TO .none:=by
    rw [es2,ez,eTI,eTO]
    exact a1
   clear es2 ez eTI eTO e1 e2 a1 a2 a3 a4 a5 a6 kk I1 p1 p2 hz2 rv1 rv2
   refine callType_codes (Q₁:=fun obj s₁=>obj=.ref s2.heap.objs.size∧s₁={ s2 with heap:=s2.heap.push { cls:=.type "list",data:=.seq #[] } }) PySem.F.called_list (PySem.F.typeCall_list_1 _) PySem.F.entry_list_init
    (code_list_new _ ⟨rfl,rfl⟩) fun obj s₁ h₁=>?_
   obtain ⟨rfl,rfl⟩:=h₁
   obtain ⟨S,eS⟩:∃ S,S=s2.heap.objs.size:=⟨_,rfl⟩
   rw [← eS]
   have hS:(s2.heap.push { cls:=.type "list",data:=.seq #[] }).get? S=some { cls:=.type "list",data:=.seq #[] }:=by rw [eS];exact Heap.get?_push_size _ rfl
   have nS:∀ b∈[z,TI,TO,i1,i2],b≠S:=fun b hb=>by rw [eS];exact Nat.ne_of_lt (hfp b hb).2
   refine ⟨⟨_,hS,rfl⟩,PySem.F.args_list_init_2 _ _,?_⟩
   show wpAny _ _ (do let old ← Builtin.List.listItems (.ref S);Builtin.List.listUpdate (.ref S) (fun _=>#[]);letGo old.toList.reverse;Builtin.List.listExtendWith (.ref S) (.ref z) .none) _ _ _
   refine wpAny_bind ?_
   unfold Builtin.List.listItems
   refine wpAny_bind (wpAny_seqItems hS rfl (wpAny_pure ?_))
   show wpAny _ _ (updateSeq S (fun _=>#[]) >>= fun _=>letGo (#[]:Array Value).toList.reverse >>= fun _=>Builtin.List.listExtendWith (.ref S) (.ref z) .none) _ _ _
   refine wpAny_bind (wpAny_updateSeq hS rfl ?_)
   have hS₂:=Heap.get?_update_self (Obj.mapSeq (fun _=>(#[]:Array Value))) hS rfl
   refine wpAny_bind (wpAny_letGo ?_)
   have oth:∀ b o,s2.heap.get? b=some o→((s2.heap.push { cls:=.type "list",data:=.seq #[] }).update S (Obj.mapSeq (fun _=>(#[]:Array Value)))).get? b=some o:=
    fun b o e=>(Heap.get?_update_other _ _ (by rw [eS];exact Nat.ne_of_gt (Heap.lt_size e))).trans (Heap.get?_push_of_some _ e)
   have hsz3:((s2.heap.push { cls:=.type "list",data:=.seq #[] }).update S (Obj.mapSeq (fun _=>(#[]:Array Value)))).objs.size=s2.heap.objs.size+1:=by rw [(Heap.SameBut.update ..).1,Heap.size_push]
   generalize ((s2.heap.push { cls:=.type "list",data:=.seq #[] }).update S (Obj.mapSeq (fun _=>(#[]:Array Value))))=h3 at oth hS₂ hsz3
   have st3:ZSt z TI TO i1 i2 l1 l2 0 h3:=by
    obtain ⟨hTI,h1,h2,⟨a,b,hTO⟩,hz⟩:=st0
    refine ⟨oth _ _ hTI,h1.at fun o e=>oth _ o e,h2.at fun o e=>oth _ o e,⟨a,b,oth _ _ hTO⟩,?_⟩
    rcases hz with ⟨e,hz⟩ | ⟨T,f,x,y,hz,hT,n⟩
    ·exact .inl ⟨e,oth _ _ hz⟩
    ·exact .inr ⟨T,f,x,y,oth _ _ hz,oth _ _ hT,n⟩
   have I3:∀ t',Inv X pins σ H1 { s2 with heap:=h3,toks:=t' }:=fun t'=>I2.kept (t':=t') oth
   have fS:FpOk X pins H1 S:=by rw [eS];exact I2.fpOk (Nat.le_refl _) I2.fresh
   unfold Builtin.List.listExtendWith
   refine wpAny_bind (wpAny_typeOf (T := "zip") st3.typeIs ?_)
   have n1:S≠z:=Ne.symm (nS z (by simp))
   have h1:Builtin.List.listSameRef (.ref S) (.ref z)=false:=by simp [Builtin.List.listSameRef,n1]
   have h2:(Value.type "zip" == Value.type "list")=false:=by decide
   have h3':(Value.type "zip" == Value.type "tuple")=false:=by decide
   simp only [h1,h2,h3',Bool.or_false,Bool.false_eq_true,if_false]
   refine wpAny_bind (wpAny_pyIter_zip (oth _ _ hzN) ?_)
   refine wpAny_bind (wpAny_holding ?_)
   unfold Builtin.List.listLengthHint
   refine wpAny_bind (wpAny_specialOf st3.typeIs nolen_zip ?_)
   show wpAny _ _ (specialOf (Value.ref z) (Str.ofString "__length_hint__") >>= _) _ _ _
   refine wpAny_bind (wpAny_specialOf st3.typeIs nohint_zip ?_)
   refine wpAny_pure ?_
   show wpAny _ _ (rule "list.extend.makes-room" >>= fun _=>Builtin.List.listTouch (.ref S) >>= fun _=>again (.builtin "list.extend.loop" ⟨[.ref S,.ref z,.none],[]⟩)) _ _ _
   refine wpAny_bind (wpAny_rule ?_)
   refine wpAny_bind ?_
   show wpAny _ _ (updateSeq S (·.push .none) >>= fun _=>updateSeq S (·.pop)) _ _ _
   refine wpAny_bind (wpAny_updateSeq hS₂ rfl ?_)
   have hS₃:=Heap.get?_update_self (Obj.mapSeq (·.push Value.none)) hS₂ rfl
   refine wpAny_updateSeq hS₃ rfl ?_
   have hS₄:=Heap.get?_update_self (Obj.mapSeq (·.pop)) hS₃ rfl
   have oth4:∀ b o,b≠S→h3.get? b=some o→((h3.update S (Obj.mapSeq (·.push Value.none))).update S (Obj.mapSeq (·.pop))).get? b=some o:=
    fun b o hb e=>(Heap.get?_update_other _ _ (Ne.symm hb)).trans ((Heap.get?_update_other _ _ (Ne.symm hb)).trans e)
   have hsz4:((h3.update S (Obj.mapSeq (·.push Value.none))).update S (Obj.mapSeq (·.pop))).objs.size=s2.heap.objs.size+1:=by rw [(Heap.SameBut.update ..).1,(Heap.SameBut.update ..).1,hsz3]
   generalize ((h3.update S (Obj.mapSeq (·.push Value.none))).update S (Obj.mapSeq (·.pop)))=h4 at hS₄ oth4 hsz4
   refine wpAny_pure ⟨plainId_quiet F.plain_extend_loop _,?_⟩
   refine zip_loop (A:=X.A.in1) (X:=X) (pins:=pins) (σ:=σ) (H0:=H1) (I.ok.hd hc) n12 nT (fun z=>nS S z rfl) hx hy hxy hz1 xs.length 0 { s2 with heap:=h4 } H1 _ _ [] (by omega) (Nat.zero_le _) ?_ Same.rfl' (fun b hb=>?_) (st3.keep hS₂ rfl oth4) hS₄ .nil rfl (fun j x y hj=>absurd hj (Nat.not_lt_zero _)) fun s' H' acc' c' ts' I' sm' f' hS' hv' zp=>?_
   ·exact Inv.turnedN (s:={ s2 with heap:=h3 }) (I:=I3 s2.toks) (t':=s2.toks) (ch:=[S]) (fun b o hb e=>oth4 b o (fun q=>hb (by simp [q])) e) fun b hb=>by
     rw [List.mem_singleton.mp hb]
     exact fS
   ·rcases List.mem_cons.mp hb with rfl | hb
    ·refine ⟨fS,?_⟩
     show b < h4.objs.size
     rw [hsz4,eS]
     exact Nat.lt_succ_self _
    ·refine ⟨(hfp b hb).1,?_⟩
     show b < h4.objs.size
     have:=(hfp b hb).2
     rw [hsz4]
     exact Nat.lt_succ_of_lt this
   ·refine ⟨rfl,.ref S,_,I'.track (o:=.lst ts') f'.1 ?_ f'.2.1 f'.2.2.2.2.1 f'.2.2.2.2.2 ⟨?_,acc'.toList,c',hv',?_⟩,rfl,q H' ts' S sm' zp f'.1 fS.1⟩
    ·cases q:X.s₀.heap.get? S with
     | none=>rfl
     | some o=>
      have h1:=Heap.lt_size q
      have h2:=I2.sz
      rw [eS] at h1
      exact absurd (Nat.lt_of_lt_of_le h1 h2) (Nat.lt_irrefl _)
    ·rw [zp.1]
     exact hz1
    ·rw [Array.toArray_toList]
     exact hS'
end L2
namespace L2
open PySem PySem.Spec PyProof.Rows XL PySem.Calls PySem.W
theorem q33 {P:Program} {w:World}:∀ {ns:List Int} {kvs:List (Key × V)} {vs:List (Key × Value)} {l:List Value},kvs.map (·.1)=ns.map Sum.inl→KV kvs vs→l.length=vs.length→
  (∀ (i:Nat) v,l[i]?=some v→∃ k x,vs[i]?=some (k,x)∧(q14 P w).is k v=true)→IntsAre l ns
 | [],[],_,l,_,r,hl,_=>by
  cases r
  have:l=[]:=List.length_eq_zero_iff.mp hl
  rw [this]
  exact .nil
 | n::ns,(k,x)::kvs,_,l,e,r,hl,h=>by
  cases r with
  | @cons p q ps qs h1 t=>
   obtain ⟨k2,x2⟩:=q
   rw [List.map_cons,List.map_cons] at e
   have e1:k=Sum.inl n:=(List.cons.inj e).1
   have e2:=(List.cons.inj e).2
   have hk:k=k2:=h1.1
   cases l with
   | nil=>simp at hl
   | cons v l=>
    obtain ⟨k3,x3,e3,is3⟩:=h 0 v rfl
    have e3':(k2,x2)=(k3,x3):=by simpa using e3
    have:k3=Sum.inl n:=by rw [← (Prod.mk.inj e3').1,← hk,e1]
    subst this
    obtain ⟨t',rfl⟩:=Value.isInt_shape (k:=n) (v:=v) is3
    exact .cons n t' (q33 e2 t (by simpa using hl) fun i u hu=>by simpa using h (i+1) u (by simpa using hu))
 | [],(_::_),_,_,e,_,_,_=>by simp at e
 | (_::_),[],_,_,e,_,_,_=>by simp at e
theorem q8b {X:Cx} (hc:X.calm=true):q2i X (.builtin "sorted") (fun xs H Q=>∃ (a:Addr) (kvs:List (Key × V)) (ns:List Int),xs=[.ref a]∧H a=some (.dK kvs)∧kvs.map (·.1)=ns.map Sum.inl∧ns.length < 64∧
  ∀ (d:Addr) (ns':List Int),H d=none→ns'.Perm ns→ns'.Pairwise (·≤·)→Q (.ref d) (upd H d (.lst (ns'.map V.int)))):=by
 intro pins s σ H xs us Q I r h
 obtain ⟨a,kvs,ns,rfl,ha,hk,h64,q⟩:=h
 obtain ⟨u,rfl,ru⟩:=r.one
 cases ru
 obtain ⟨z,lo,vs,rk,hD⟩:=I.hok a _ ha
 obtain ⟨ep,hat⟩:=hD.dictAt
 have hlen:vs.length=ns.length:=by
  have h1:=congrArg List.length hk
  rw [List.length_map,List.length_map] at h1
  have h2:kvs.length=vs.length:=Paired.length rk
  omega
 refine Calls.call_function_entry kind_sorted plain_sorted entry_sorted (args_sorted1 _) ?_
 unfold Builtin.«sorted»
 refine wpAny_bind (m:=checkCount "sorted" 1 1 _) (wpAny_pure ?_)
 refine wpAny_bind (kdu_collect (A:=X.A.in1) (kdl_dict (knd:=q14 X.prog X.w) (kvs:=vs) (ep:=ep) lo) (I.ok.hd hc) hat (by rw [hlen,sizeLine_eq];omega) fun h' tk acc hk' hacc=>?_)
 have hl:acc.toList.length=vs.length:=by rw [Array.length_toList];exact hacc.1
 have hI:IntsAre acc.toList ns:=q33 (P:=X.prog) (w:=X.w) hk rk hl fun i v e=>hacc.2 i v (by rw [← Array.getElem?_toList];exact e)
 refine wpAny_bind (wpAny_newList ?_ (by rw [hl,hlen,sizeLine_eq];omega))
 have hoL:(h'.push (seqObj "list" acc.toList.toArray 0)).get? h'.objs.size=some (seqObj "list" acc.toList.toArray 0):=Heap.get?_push_size _ rfl
 refine wpAny_bind (wpAny_holding (wpAny_call_entry slot_list_sort ⟨_,hoL,rfl⟩ entry_list_sort (list_sort_tree hoL hI (by omega) fun out ns' a1 a2 a3=>⟨_,rfl,?_⟩) (args_list_sort _)))
 refine wpAny_pure ⟨_,rfl,?_⟩
 obtain ⟨e,he⟩:=sortedHeap_at (out:=out) hoL
 have old:∀ b o,h'.get? b=some o→(sortedHeap (h'.push (seqObj "list" acc.toList.toArray 0)) h'.objs.size acc.toList out).get? b=some o:=fun b o eb'=>by
  have hlt:=Heap.lt_size eb'
  rw [sortedHeap_old (Nat.ne_of_lt hlt) (by rw [size_push'];exact Nat.lt_succ_of_lt hlt)]
  exact Heap.get?_push_of_some _ eb'
 have I1:Inv X pins σ H { s with heap:=h',toks:=tk }:=I.kept hk'
 refine ⟨.ref h'.objs.size,_,I1.laid (t':=tk) old (Nat.le_refl _) (a:=h'.objs.size) (o:=.lst (ns'.map V.int)) ⟨?_,out.toList,e,q7i a1,?_⟩,rfl,q _ ns' I1.fresh a2 a3⟩
 ·rw [List.length_map,a2.length_eq,sizeLine_eq]
  omega
 ·rw [he]
end L2
namespace L2
open PySem PySem.Spec PyProof.Rows
theorem for_enum {K:W.Frag} {a:Addr} {xs:List V} {g:TG} {tb:TS} {D:Ends} {σ:St} {H:Hp} (Pv:Nat→St→Hp→Prop) (h0:Pv 0 σ H) (hl:∀ i σ H,i≤xs.length→Pv i σ H→SqL K H a xs)
  (hs:∀ i x σ H t,xs[i]?=some x→Pv i σ H→H t=none→g (.ref t) σ (upd H t (.tup [.int i,x])) fun σ2 H2=>tb { D with nx:=Pv (i+1),ct:=Pv (i+1),bk:=D.nx } σ2 H2) (hd:∀ σ H,Pv xs.length σ H→D.nx σ H) :
  ∃ W:Nat→Nat→St→Hp→Prop,(∃ m,W 0 m σ H)∧∀ i m σ H,W i m σ H→
   ((Ite K a).stop i H∧D.nx σ H)∨((Ite K a).go i H∧∃ N:St→Hp→Prop,(∀ σ' H',N σ' H'→∃ m',m' < m∧W (i+1) m' σ' H')∧∀ x H',(Ite K a).yld i H x H'→g x σ H' fun σ2 H2=>tb { D with nx:=N,ct:=N,bk:=D.nx } σ2 H2):=by
 refine ⟨fun i m σ H=>m=xs.length - i∧i≤xs.length∧Pv i σ H,⟨xs.length,by simp,Nat.zero_le _,h0⟩,?_⟩
 rintro i m σ H ⟨rfl,hi,p⟩
 have q:=hl i σ H hi p
 by_cases hlt:i < xs.length
 ·refine .inr ⟨⟨xs,xs[i],q,by simp [hlt]⟩,Pv (i+1),fun σ' H' p'=>⟨xs.length - (i+1),by omega,rfl,hlt,p'⟩,fun x H' y=>?_⟩
  obtain ⟨t,rfl,ht,y⟩:=y
  rw [y xs xs[i] q (by simp [hlt])]
  exact hs i xs[i] σ H t (by simp [hlt]) p ht
 ·have e:i=xs.length:=by omega
  subst e
  exact .inl ⟨⟨xs,q,Nat.le_refl _⟩,hd σ H p⟩
def tMid (t:TS):TS:=fun D σ H=>∃ M:St→Hp→Prop,(∀ σ' H',M σ' H'→D.nx σ' H')∧t { D with nx:=M } σ H
theorem q3r {X:Cx} {st:Stmt} {t:TS} (h:PS X st t):PS X st (tMid t):=by
 rintro pins s σ H D I ⟨M,k,q⟩
 refine thn (h pins s σ H _ I q) fun f s1 z=>?_
 cases f with
 | next=>
  obtain ⟨σ',H',J,m⟩:=z
  exact ⟨σ',H',J,k σ' H' m⟩
 | brk=>exact z
 | cont=>exact z
 | ret u=>exact z
theorem q4c {J:It} {n:Nat} {H1:Hp} {D:Addr} {g:TG} {te:TE} {k:Nat} {cs:List Nat} {σ:St} {Q:VK} (Pv:Nat→List V→Hp→Prop) (h0:Pv 0 [] (upd H1 D (.lst []))) (hP:∀ i ys H,i < n→Pv i ys H→ys.length < sizeLine)
  (step:∀ i ys H,i < n→Pv i ys H→J.go i H∧∀ (K1:VK),(∀ y H4,H4 D=some (.lst ys)→Pv (i+1) (ys++[y]) (upd H4 D (.lst (ys++[y])))→K1 y H4)→
   ∀ x H',J.yld i H x H'→g x (capv k cs σ) H' fun σ2 H2=>σ2.drop k=cs.map (fun i=>σ.getD i none)∧te σ2 H2 K1)
  (fin:∀ ys H,Pv n ys H→J.stop n H∧Q (.ref D) H):z07 J k cs σ g tNoIf te Q H1 D:=by
 refine ⟨fun i m ys H=>m=n - i∧i≤n∧Pv i ys H,⟨n,by simp,Nat.zero_le _,h0⟩,?_⟩
 rintro i m ys H ⟨rfl,hi,p⟩
 by_cases hlt:i < n
 ·obtain ⟨go,st⟩:=step i ys H hlt p
  refine .inr ⟨go,fun x H' y=>st (fun y H4=>H4 D=some (.lst ys)∧ys.length < sizeLine∧∃ m',m' < n - i∧m'=n - (i+1)∧i+1≤n∧Pv (i+1) (ys++[y]) (upd H4 D (.lst (ys++[y])))) (fun y H4 e q=>?_) x H' y⟩
  exact ⟨e,hP i ys H hlt p,n - (i+1),by omega,rfl,hlt,q⟩
 ·have e:i=n:=by omega
  subst e
  exact .inl (fin ys H p)
end L2
namespace L2
open PySem PySem.Spec PyProof.Rows XL PySem.Calls
open Sem (wp)
theorem q9f:∀ (l:List Value) (k0:Nat),(∀ i v,l[i]?=some v→∃ t,v=Value.int ((k0+i:Nat):Int) t)→Vals ((List.range' k0 l.length).map fun k=>V.int ((k:Nat):Int)) l
 | [],k0,_=>.nil
 | v::l,k0,h=>by
  rw [List.length_cons,List.range'_succ,List.map_cons]
  refine .cons ?_ (q9f l (k0+1) fun i v hv=>?_)
  ·obtain ⟨t,e⟩:=h 0 v rfl
   exact ⟨t,e⟩
  ·obtain ⟨t,e⟩:=h (i+1) v hv
   exact ⟨t,by rw [e];congr 2;omega⟩
theorem q86 {X:Cx} {e:Expr} {te:TE} {p1 p2 pos1 pos2:Pos} (hc:X.calm=true) (hg1:Gl X "list") (hm1:X.mg "list" = none) (hg2:Gl X "range") (hm2:X.mg "range" = none) (he:PE X e te) (hs:starEach [e] X.env=[(false,eval e X.env)]:=by rfl)
  (hs2:starEach [.Call (.Name "range" p2) [e] [] pos2] X.env=[(false,eval (.Call (.Name "range" p2) [e] [] pos2) X.env)]:=by rfl) :
  PE X (.Call (.Name "list" p1) [.Call (.Name "range" p2) [e] [] pos2] [] pos1) (fun σ H Q=>te σ H fun x H1=>∃ j:Nat,x=.int (j:Int)∧j≤1000∧∀ d,H1 d=none→Q (.ref d) (upd H1 d (.lst ((List.range j).map fun k=>V.int ((k:Nat):Int))))):=by
 intro pins s σ H Q I h
 refine Call_ (q2s I hg1 hm1 q7h (PyProof.Rows.callWith_type1 (e:=.Call (.Name "range" p2) [e] [] pos2) (rest:=[]) ?_ hs2 rfl))
 rw [hs2]
 show wpAny _ _ (spliced ((false,eval (.Call (.Name "range" p2) [e] [] pos2) X.env)::[])) _ _ s
 refine Calls.spliced_cons (Call_ (q2s I hg2 hm2 boot_range (PyProof.Rows.callWith_type1 (e:=e) (rest:=[]) ?_ hs rfl)))
 rw [hs]
 show wpAny _ _ (spliced ((false,eval e X.env)::[])) _ _ s
 refine Calls.spliced_cons (thn (he pins s σ H _ I h) fun u s1 ⟨x,H1,I1,r1,j,ex,hj,q⟩=>?_)
 subst ex
 obtain ⟨t,rfl⟩:=r1
 refine Calls.spliced_nil (call_range_1 ?_)
 refine Calls.spliced_nil ?_
 have I2:Inv X pins σ H1 { s1 with heap:=s1.heap.push { cls:=.type "range",data:=.fields #[.int 0 s1.toks,.int (j:Int) t,.int 1 (s1.toks+1)] },toks:=s1.toks+1+1 }:=I1.kept fun b o e=>Heap.get?_push_of_some _ e
 refine call_list_range (n:=j) (I.ok.hd hc) (IsRange.new ..) (small_one (by omega) (by omega) (by omega) (by omega)) (by rw [rangeSize_one];split <;> omega) (by omega) fun h' tk acc' c' hk hS hacc=>?_
 obtain ⟨hsz,hit⟩:=hacc
 have hv:Vals ((List.range j).map fun k=>V.int ((k:Nat):Int)) acc'.toList:=by
  have:=q9f acc'.toList 0 fun i v hv=>by
   rw [Array.getElem?_toList] at hv
   obtain ⟨t,e⟩:=hit i v hv
   exact ⟨t,by rw [e];congr 1;omega⟩
  rw [Array.length_toList,hsz,← List.range_eq_range'] at this
  exact this
 refine ⟨.ref _,_,I2.laid (t':=tk) hk (Nat.le_refl _) (show ObjOk X.prog X.w _ h' _ (.lst ((List.range j).map fun k=>V.int ((k:Nat):Int))) from ⟨?_,acc'.toList,c',hv,by rw [Array.toArray_toList];exact hS⟩),rfl,q _ (I2.hok.fresh (Nat.le_refl _))⟩
 rw [List.length_map,List.length_range,sizeLine_eq]
 omega
end L2
namespace L2
open PySem PySem.Spec PyProof.Rows XL PySem.Calls
open Sem (wp)
section
variable {X:Cx}
theorem call_sumA (hc:X.calm=true):q2i X (.builtin "sum") (fun xs H Q=>∃ (p:Addr) (ns:List Int),xs=[.ref p]∧SqL X.K H p (ns.map V.int)∧Q (.int ns.sum) H):=by
 intro pins s σ H xs us Q I r h
 obtain ⟨p,ns,rfl,hp,q⟩:=h
 obtain ⟨u,rfl,ru⟩:=r.one
 cases ru
 obtain ⟨its,rv,pl,hz⟩:=I.list hp
 have hI:=q4e rv
 have hlen:=hI.length
 have hlt:p < s.heap.objs.size:=by obtain ⟨_,e,_⟩:=pl.isList;exact Heap.lt_size e
 refine call_sum_walkAnyS (wpAny_pyIter_list pl.isList ?_)
 refine ⟨_,_,_,_,_,_,_,fun i=>ns.getD i 0,rfl,(Walks.list (A:=X.A.in1) (I.ok.hd hc) _ p (Nat.ne_of_lt hlt) _).toS,⟨⟨_,Heap.get?_push_size _ rfl,rfl,rfl⟩,pl.isList.push _⟩,fun b hb=>?_,z1m hI,fun s' t' hm=>?_⟩
 ·show b < (s.heap.push _).objs.size
  rw [Heap.size_push]
  rcases List.mem_cons.mp hb with rfl | hb
  ·exact Nat.lt_succ_self _
  ·rcases List.mem_cons.mp hb with rfl | hb
   ·exact Nat.lt_succ_of_lt hlt
   ·cases hb
 ·rw [Moved.eq_with hm]
  refine ⟨.int ns.sum,H,I.kept (t':=s'.toks) (z0g fun b o hb e=>hm.heap b o hb e),⟨t',?_⟩,q⟩
  rw [preSum_getD,List.size_toArray,hlen,List.take_length]
end
end L2
namespace L2
open PySem PySem.Spec PyProof.Rows XL PySem.Calls PySem.W
def lexI:List Int→List Int→Bool
 | [],[]=>false
 | [],_::_=>true
 | _::_,[]=>false
 | x::xs,y::ys=>if x=y then lexI xs ys else decide (x < y)
theorem lexI_nil (ms:List Int):lexI [] ms=decide (0 < ms.length):=by
 cases ms with
 | nil=>rfl
 | cons a r=>simp [lexI]
theorem z1i {vs:List Value} {ns:List Int} (h:IntsAre vs ns):∀ (i:Nat),i < ns.length→∃ n t,ns[i]?=some n∧vs[i]?=some (.int n t):=by
 induction h with
 | nil=>exact fun i hi=>absurd hi (Nat.not_lt_zero _)
 | cons n t _ ih=>
  intro i hi
  cases i with
  | zero=>exact ⟨n,t,rfl,rfl⟩
  | succ i=>
   obtain ⟨n',t',h1,h2⟩:=ih i (by simpa using hi)
   exact ⟨n',t',by simpa using h1,by simpa using h2⟩
theorem lt_loopAt (l b:Addr) (its its2:List Value) (ns ms:List Int) (hi:IntsAre its ns) (hj:IntsAre its2 ms) :
  ∀ (k i:Nat),ns.length - i=k→i≤ns.length→i≤ms.length→Meets (Builtin.«list.__eq__.loop» { pos:=[Value.ref l,Value.ref b,rawInt (i:Int),rawInt 0] }) fun A R s=>
   (∃ o n,s.heap.get? l=some o∧o.data=Data.seq its.toArray n)∧(∃ o n,s.heap.get? b=some o∧o.data=Data.seq its2.toArray n)∧R (.ok (.ret (.bool (lexI (ns.drop i) (ms.drop i))))) s:=by
 intro k
 induction k with
 | zero=>
  intro i hk h1 h2 prog w A R s ⟨⟨o,n,ho,hd⟩,⟨o2,n2,ho2,hd2⟩,r⟩
  have hil:=hi.length
  have hjl:=hj.length
  have e1:its.toArray[((i:Int)).toNat]?=none:=by simp;omega
  refine wpAny_bind (listItems_at ho hd (wpAny_bind (listItems_at ho2 hd2 ?_)))
  rw [e1]
  refine wpAny_bind (listItems_at ho hd (wpAny_bind (listItems_at ho2 hd2 (wpAny_pure ?_))))
  have e:lexI (ns.drop i) (ms.drop i)=decide (its.toArray.size < its2.toArray.size):=by
   have:ns.drop i=[]:=List.drop_eq_nil_of_le (by omega)
   rw [this,lexI_nil,decide_eq_decide,List.length_drop]
   simp
   omega
  rw [e] at r
  exact r
 | succ k ih=>
  intro i hk h1 h2 prog w A R s ⟨⟨o,n,ho,hd⟩,⟨o2,n2,ho2,hd2⟩,r⟩
  have hil:=hi.length
  have hjl:=hj.length
  obtain ⟨x,t,gx,vx⟩:=z1i hi i (by omega)
  have e1:its.toArray[((i:Int)).toNat]?=some (.int x t):=by simpa using vx
  refine wpAny_bind (listItems_at ho hd (wpAny_bind (listItems_at ho2 hd2 ?_)))
  rw [e1]
  by_cases hm:i < ms.length
  ·obtain ⟨y,u,gy,vy⟩:=z1i hj i hm
   have e2:its2.toArray[((i:Int)).toNat]?=some (.int y u):=by simpa using vy
   rw [e2]
   have d1:ns.drop i=x::ns.drop (i+1):=by
    rw [List.drop_eq_getElem_cons (by omega)]
    rw [List.getElem?_eq_getElem (by omega)] at gx
    rw [Option.some.inj gx]
   have d2:ms.drop i=y::ms.drop (i+1):=by
    rw [List.drop_eq_getElem_cons hm]
    rw [List.getElem?_eq_getElem hm] at gy
    rw [Option.some.inj gy]
   rw [d1,d2] at r
   refine wpAny_bind (SeqAt.EqAt.int_int x t y u prog w _ _ ?_)
   by_cases hxy:x=y
   ·rw [show (x == y)=true from by simpa using hxy,if_pos rfl]
    refine wpAny_pure ⟨plainId_quiet MeetsSeq3.plain_eq_loop _,codeAny_builtin MeetsSeq3.entry_eq_loop ?_⟩
    rw [Around.under_plainId MeetsSeq3.plain_eq_loop]
    have r':R (.ok (.ret (.bool (lexI (ns.drop (i+1)) (ms.drop (i+1)))))) s:=by
     rw [lexI,if_pos hxy] at r
     exact r
    have:=ih (i+1) (by omega) (by omega) (by omega) prog w A R s ⟨⟨o,n,ho,hd⟩,⟨o2,n2,ho2,hd2⟩,r'⟩
    exact this
   ·rw [show (x == y)=false from by simpa using hxy,if_neg Bool.false_ne_true]
    refine wpAny_bind (listItems_at ho hd (wpAny_bind (listItems_at ho2 hd2 ?_)))
    rw [e1,e2]
    refine wpAny_bind (lt_int (t:=t) (u:=u) (wpAny_pure ?_))
    rw [lexI,if_neg hxy] at r
    exact r
  ·have e2:its2.toArray[((i:Int)).toNat]?=none:=by simp;omega
   rw [e2]
   refine wpAny_bind (listItems_at ho hd (wpAny_bind (listItems_at ho2 hd2 (wpAny_pure ?_))))
   have e:lexI (ns.drop i) (ms.drop i)=decide (its.toArray.size < its2.toArray.size):=by
    have:ms.drop i=[]:=List.drop_eq_nil_of_le (by omega)
    rw [this,List.drop_eq_getElem_cons (by omega),lexI]
    refine (decide_eq_false ?_).symm
    simp
    omega
   rw [e] at r
   exact r
theorem list_ltAt (l b:Addr) (its its2:List Value) (ns ms:List Int) (hi:IntsAre its ns) (hj:IntsAre its2 ms) :
  Meets (Builtin.«list.__lt__» { pos:=[Value.ref l,Value.ref b] }) fun A R s=>s.heap.IsList l its.toArray∧s.heap.IsList b its2.toArray∧R (.ok (.ret (.bool (lexI ns ms)))) s:=by
 rintro prog w A R ⟨h,g,dr,tk,os⟩ ⟨⟨o,ho,hc,n,hd⟩,⟨o2,ho2,hc2,n2,hd2⟩,r⟩
 refine wpAny_bind (m:=slotArgs _ 1 _) (wpAny_of_eq (a:=(Value.ref l,[Value.ref b])) rfl ?_)
 refine wpAny_bind (m:=isInstance _ _) (wpAny_bind (m:=typeOf _) (wpAny_bind (m:=loadPart _ _) (wpAny_loadPart' ho2 (wpAny_pure ?_))))
 rw [hc2]
 refine wpAny_of_eq AutoSeq1.sub_list_list ?_
 refine wpAny_ite_false (by decide) ?_
 refine wpAny_ite_false (by decide) ?_
 refine wpAny_pure ⟨plainId_quiet MeetsSeq3.plain_eq_loop _,codeAny_builtin MeetsSeq3.entry_eq_loop ?_⟩
 rw [Around.under_plainId MeetsSeq3.plain_eq_loop]
 exact lt_loopAt l b its its2 ns ms hi hj ns.length 0 (by omega) (Nat.zero_le _) (Nat.zero_le _) prog w A R ⟨h,g,dr,tk,os⟩ ⟨⟨o,n,ho,hd⟩,⟨o2,n2,ho2,hd2⟩,r⟩
theorem z06 {prog:Program} {w:World} {A:Around} {E:Value→Shared→Prop} {s:Shared} {l b:Addr} {its its2:List Value} {ns ms:List Int} {Q:Bool→Shared→Prop}
  (hu:A.units < cLine) (hl:s.heap.IsList l its.toArray) (hb:s.heap.IsList b its2.toArray) (hi:IntsAre its ns) (hj:IntsAre its2 ms) (q:Q (lexI ns ms) s):wpAny (model prog w) A (keyLt' oneType' (.ref l) (.ref b)) Q E s:=by
 obtain ⟨o,ho,hc,n,hd⟩:=id hl
 rw [keyLt'_oneType,oneLt'_eq]
 simp only [if_true]
 refine wpAny_bind (wpAny_cRoomFor hu (wpAny_bind (wpAny_callSpecialIfBound?_slot (T := "list") (id := "list.__lt__") ⟨o,ho,hc⟩ PySem.F.slot_list_lt ?_)))
 refine call_meets (T := "list") PySem.F.slot_list_lt ⟨o,ho,hc⟩ PySem.F.entry_list_lt (PySem.F.args_list_lt_2 _ _) (list_ltAt l b its its2 ns ms hi hj) ⟨hl,hb,?_⟩
 exact wpAny_truthy_bool q
def Tr {α:Type} (R:Nat→Nat→Bool→Prop) (n:Nat) (P:α→Prop):KasT α→Prop
 | .ret a=>P a
 | .ask i j k=>i < n∧j < n∧∀ b,R i j b→Tr R n P (k b)
theorem Tr.imp {α:Type} {R:Nat→Nat→Bool→Prop} {n:Nat} {P P':α→Prop} (hp:∀ a,P a→P' a):∀ {t:KasT α},Tr R n P t→Tr R n P' t
 | .ret a,h=>hp a h
 | .ask i j k,h=>⟨h.1,h.2.1,fun b hb=>Tr.imp hp (h.2.2 b hb)⟩
theorem Tr.bind {α β:Type} {R:Nat→Nat→Bool→Prop} {n:Nat} {P:α→Prop} {P':β→Prop} {f:α→KasT β} (hf:∀ a,P a→Tr R n P' (f a)):∀ {t:KasT α},Tr R n P t→Tr R n P' (t.bind f)
 | .ret a,h=>hf a h
 | .ask i j k,h=>⟨h.1,h.2.1,fun b hb=>Tr.bind hf (h.2.2 b hb)⟩
theorem Tr.wp {α:Type} {R:Nat→Nat→Bool→Prop} {n:Nat} {P:α→Prop} {cmp:Nat→Nat→(Bool→Shared→Prop)→Shared→Prop} {s:Shared} (hc:∀ i j C,i < n→j < n→(∀ b,R i j b→C b s)→cmp i j C s) {G:α→Shared→Prop} (q:∀ a,P a→G a s):∀ {t:KasT α},Tr R n P t→KasT.kasWp cmp t G s
 | .ret a,h=>q a h
 | .ask i j k,h=>hc i j _ h.1 h.2.1 fun b hb=>Tr.wp hc q (h.2.2 b hb)
def PR (n:Nat) (p:Array Nat):Prop:=p.toList.Perm (List.range n)
theorem perm_swap (p:Array Nat) (i j:Nat):(p.swapIfInBounds i j).toList.Perm p.toList:=by
 unfold Array.swapIfInBounds
 split
 ·split
  ·exact (Array.swap_perm _ _).toList
  ·exact .rfl
 ·exact .rfl
theorem q4o (u v:Nat→Nat):∀ (l:List Nat) (p:Array Nat),(l.foldl (fun a k=>a.swapIfInBounds (u k) (v k)) p).toList.Perm p.toList
 | [],p=>.rfl
 | k::l,p=>(q4o u v l _).trans (perm_swap _ _ _)
theorem PR.rev {n:Nat} {p:Array Nat} (h:PR n p) (i j:Nat):PR n (kas_rev p i j):=(q4o (fun k=>i+k) (fun k=>j - 1 - k) _ p).trans h
theorem PR.bub {n:Nat} {p:Array Nat} (h:PR n p) (i j:Nat):PR n (bubble p i j):=(q4o (fun k=>i - k) (fun k=>i - k - 1) _ p).trans h
theorem PR.lt {n:Nat} {p:Array Nat} (h:PR n p) (hn:0 < n) (i:Nat):p.getD i 0 < n:=by
 rw [Array.getD_eq_getD_getElem?]
 by_cases hi:i < p.size
 ·rw [Array.getElem?_eq_getElem hi]
  exact List.mem_range.mp (h.mem_iff.mp (by simp))
 ·rw [Array.getElem?_eq_none (by omega)]
  exact hn
section
variable {R:Nat→Nat→Bool→Prop} {n:Nat}
theorem tr_asc {p:Array Nat} (h:PR n p) (hn:0 < n):∀ (f a:Nat),Tr R n (fun _=>True) (kas_asc p f a)
 | 0,a=>trivial
 | f+1,a=>⟨h.lt hn _,h.lt hn _,fun b _=>by
  cases b with
  | true=>exact trivial
  | false=>exact tr_asc h hn f (a+1)⟩
theorem q7q (hn:0 < n):∀ (f:Nat) (p:Array Nat) (a q:Nat),PR n p→Tr R n (fun r=>PR n r.1) (kas_desc f p a q)
 | 0,p,a,q,h=>h
 | f+1,p,a,q,h=>⟨h.lt hn _,h.lt hn _,fun b _=>by
  cases b with
  | true=>
   show Tr R n _ (if q > 0 then kas_desc f (kas_rev p (a - (q+1)) a) (a+1) 0 else kas_desc f p (a+1) 0)
   split
   ·exact q7q hn f _ _ _ (h.rev _ _)
   ·exact q7q hn f _ _ _ h
  | false=>
   refine ⟨h.lt hn _,h.lt hn _,fun d _=>?_⟩
   cases d with
   | true=>exact h
   | false=>exact q7q hn f _ _ _ h⟩
theorem tr_tail {p:Array Nat} (h:PR n p) (hn:0 < n) (a m:Nat):Tr R n (fun r=>PR n r.2) (kas_tail3 a m p):=by
 refine Tr.bind (P:=fun _=>True) (fun b _=>?_) (tr_asc (h.rev _ _) hn _ _)
 exact h.rev _ _
theorem tr_part {p:Array Nat} (h:PR n p) (hn:0 < n) (a m:Nat):Tr R n (fun r=>PR n r.2) (kas_descPart a m p):=by
 refine Tr.bind (fun r hr=>?_) (q7q hn _ _ _ _ h)
 show Tr R n _ (if r.snd.snd > 0 then _ else _)
 split
 ·exact tr_tail (hr.rev _ _) hn _ _
 ·exact tr_tail hr hn _ _
theorem tr_count {p:Array Nat} (h:PR n p) (hn:0 < n) (m:Nat):Tr R n (fun r=>PR n r.2) (kas_count m p):=by
 refine Tr.bind (fun a _=>?_) (tr_asc h hn _ _)
 show Tr R n _ (if (a == m)=true then _ else _)
 split
 ·exact h
 ·split
  ·refine ⟨h.lt hn _,h.lt hn _,fun b _=>?_⟩
   cases b with
   | true=>exact h
   | false=>exact tr_part (h.rev _ _) hn _ _
  ·exact tr_part h hn _ _
theorem q79 {p:Array Nat} (h:PR n p) (hn:0 < n) (k:Nat):∀ (f l r:Nat),Tr R n (fun _=>True) (kas_place p k f l r)
 | 0,l,r=>trivial
 | f+1,l,r=>by
  show Tr R n _ (if l ≥ r then _ else _)
  split
  ·exact trivial
  ·refine ⟨h.lt hn _,h.lt hn _,fun b _=>?_⟩
   cases b with
   | true=>exact q79 h hn k f _ _
   | false=>exact q79 h hn k f _ _
theorem tr_bin (hn:0 < n):∀ (f:Nat) (p:Array Nat) (k:Nat),PR n p→Tr R n (PR n) (kas_bin f p k)
 | 0,p,k,h=>h
 | f+1,p,k,h=>Tr.bind (fun l _=>tr_bin hn f _ _ (h.bub _ _)) (q79 h hn k k 0 k)
theorem tr_sort (hn:0 < n):Tr R n (PR n) (kas_sort n):=by
 refine Tr.bind (fun r hr=>?_) (tr_count (p:=(List.range n).toArray) (by simp [PR]) hn n)
 show Tr R n _ (if r.fst < n then _ else _)
 split
 ·exact tr_bin hn _ _ _ hr
 ·exact hr
end
def selV (vs:List Value) (p:Array Nat):Array Value:=(p.toList.map fun i=>vs.getD i .none).toArray
theorem q5f {prog:Program} {w:World} {A:Around} {E:Value→Shared→Prop} {s:Shared} {a:Addr} {vs:List Value} {n:Nat} {P:PySem.Fin→Shared→Prop} {nss:List (List Int)} {P0:Array Nat→Prop}
  (ho:s.heap.get? a=some (seqObj "list" vs.toArray n)) (hu:A.units < cLine) (hl:vs.length=nss.length)
  (hx:∀ (i:Nat) v ns,vs[i]?=some v→nss[i]?=some ns→∃ b its,v=.ref b∧b≠a∧s.heap.IsList b (List.toArray its)∧IntsAre its ns) (h64:vs.length < 64)
  (h0:vs.length < 2→P0 (List.range vs.length).toArray) (hT:2≤vs.length→Tr (fun i j b=>b=lexI (nss.getD i []) (nss.getD j [])) vs.length P0 (kas_sort vs.length))
  (q:∀ p,p.size=vs.length→P0 p→P (.done (.ret .none)) { s with heap:=sortedHeap s.heap a vs (selV vs p) }):wpAny (model prog w) A (Builtin.«list.sort» { pos:=[.ref a] }) P E s:=by
 obtain ⟨e1,h1⟩:∃ e1,(s.heap.update a (Obj.mapSeq fun _=>#[])).get? a=some (seqObj "list" #[] e1):=⟨_,get?_update_seq ho _⟩
 have hz:sizeLine=16777216:=sizeLine_eq
 have h2:=Heap.get?_push_of_some (seqObj "list" #[] 0) (Heap.get?_push_of_some (seqObj "tuple" vs.toArray 0) h1)
 rw [list_sort_plain]
 refine wpAny_bind (listItems_at ho rfl (wpAny_bind (listUpdate_at ho rfl ?_ (by simp;omega) (by simp))))
 refine wpAny_bind (seqEpoch_at h1 rfl (wpAny_bind (wpAny_newTuple ?_ (by simp;omega))))
 refine wpAny_bind (wpAny_newList (wpAny_holding ?_))
 by_cases hc:vs.length < 2
 ·have hc':vs.toArray.size < 2:=by simpa using hc
  simp only [if_pos hc',StateT.run_pure]
  refine wpAny_bind (wpAny_pure (wpAny_bind (wpAny_pure ?_)))
  have hzp:(vs.toArray.zip vs.toArray).size=vs.length:=by simp
  have es:Array.map (fun x=>x.snd) (arrOf (SortSt.mk' general' (vs.toArray.zip vs.toArray) #[] 7 none))=selV vs (List.range vs.length).toArray:=by
   refine kat_snds (ks:=vs) rfl ?_
   have:=kas_range (vs.toArray.zip vs.toArray)
   rw [hzp] at this
   exact this.symm
  refine wpAny_bind (seqEpoch_at h2 rfl (wpAny_bind (listUpdate_at h2 rfl ?_ (by simp) (by rw [es];simp [selV];omega))))
  rw [es]
  have:=q _ (by simp) (h0 hc)
  rw [show (e1 != e1)=false from by simp,if_neg Bool.false_ne_true]
  exact wpAny_pure this
 ·have hc':¬ vs.toArray.size < 2:=by simpa using hc
  simp only [if_neg hc']
  refine wpAny_bind (kas_kind (T:=.type "list") (by omega) (fun v hv=>?_) (by decide) (by decide) ?_)
  ·obtain ⟨i,hi,ei⟩:=List.mem_iff_getElem.mp hv
   obtain ⟨b,its,rfl,hne,⟨o,hb,hcl,_⟩,_⟩:=hx i v nss[i] (by rw [List.getElem?_eq_getElem hi,ei]) (List.getElem?_eq_getElem (by omega))
   have hb2:=Heap.get?_push_of_some (seqObj "list" #[] 0) (Heap.get?_push_of_some (seqObj "tuple" vs.toArray 0) ((Heap.get?_update_ne s.heap b a (Obj.mapSeq fun _=>#[]) hne).trans hb))
   intro A' Q' E' s' hk hq
   cases s' with
   | mk h' g' d' t' os'=>
    refine wpAny_bind (m:=loadPart _ _) (wpAny_loadPart' (hk _ _ hb2) (wpAny_pure ?_))
    rw [hcl]
    exact hq
  refine wpAny_bind (wpAny_mono (kat_run (ks:=vs) (Q:=fun st' s'=>(failedOf st'=none∧∃ p,p.size=vs.length∧P0 p∧arrOf st'=Array.map (kas_item (vs.toArray.zip vs.toArray)) p)∧s'=_) (G:=fun p s'=>P0 p∧s'=_) rfl (by omega) h64 (fun p st' s' hp ha hf hG=>⟨⟨hf,p,hp,hG.1,ha⟩,hG.2⟩) (Tr.wp (fun i j C hi hj hC=>?_) (fun p hp=>⟨hp,rfl⟩) (hT (by omega)))) (fun r s' hq=>?_) (fun _ _ z=>z))
  ·obtain ⟨b,its,ev,hne,hb,hin⟩:=hx i vs[i] nss[i] (List.getElem?_eq_getElem hi) (List.getElem?_eq_getElem (by omega))
   obtain ⟨b',its',ev',hne',hb',hin'⟩:=hx j vs[j] nss[j] (List.getElem?_eq_getElem hj) (List.getElem?_eq_getElem (by omega))
   have keep:∀ {b:Addr} {xs:Array Value},b≠a→s.heap.IsList b xs→(((s.heap.update a (Obj.mapSeq fun _=>#[])).push (seqObj "tuple" vs.toArray 0)).push (seqObj "list" #[] 0)).IsList b xs:=fun {b xs} hne ⟨o,ho,r⟩=>
    ⟨o,Heap.get?_push_of_some _ (Heap.get?_push_of_some _ ((Heap.get?_update_ne s.heap b a _ hne).trans ho)),r⟩
   have g1:vs.getD i .none=.ref b:=by rw [List.getD_eq_getElem?_getD,List.getElem?_eq_getElem hi,ev];rfl
   have g2:vs.getD j .none=.ref b':=by rw [List.getD_eq_getElem?_getD,List.getElem?_eq_getElem hj,ev'];rfl
   have g3:nss.getD i []=nss[i]:=by rw [List.getD_eq_getElem?_getD,List.getElem?_eq_getElem (by omega)];rfl
   have g4:nss.getD j []=nss[j]:=by rw [List.getD_eq_getElem?_getD,List.getElem?_eq_getElem (by omega)];rfl
   show wpAny _ _ (keyLt' _ (vs.getD i .none) (vs.getD j .none)) _ _ _
   rw [g1,g2]
   exact z06 hu (keep hne hb) (keep hne' hb') hin hin' (hC _ (by rw [g3,g4]))
  ·obtain ⟨⟨hf,p,hp,hP,ha⟩,rfl⟩:=hq
   obtain ⟨u,st⟩:=r
   have es:=kat_snds (ks:=vs) rfl ha
   refine wpAny_bind (seqEpoch_at h2 rfl (wpAny_bind (listUpdate_at h2 rfl ?_ (by simp) (by rw [es];simp;omega))))
   rw [es]
   have:=q p hp hP
   dsimp only at hf
   rw [show (e1 != e1)=false from by simp,if_neg Bool.false_ne_true,hf]
   exact wpAny_pure this
theorem z0u {xs:List V} {us:List Value} (r:Vals xs us):∀ (l:List Nat),Vals (l.map fun i=>xs.getD i .non) (l.map fun i=>us.getD i .none)
 | []=>.nil
 | i::l=>by
  refine .cons ?_ (z0u r l)
  show RelV (xs.getD i .non) (us.getD i .none)
  rw [List.getD_eq_getElem?_getD,List.getD_eq_getElem?_getD]
  cases e:xs[i]? with
  | none=>
   rw [r.none_of e]
   rfl
  | some x=>
   obtain ⟨u,eu,ru⟩:=r.get e
   rw [eu]
   exact ru
theorem q8o {X:Cx} (hu:X.A.units+64 < cLine):q2i X (.builtin "sorted") (fun xs H Q=>∃ (p:Addr) (zs:List V) (nss:List (List Int)) (P0:Array Nat→Prop),xs=[.ref p]∧SqL X.K H p zs∧zs.length=nss.length∧
  (∀ (i:Nat) z ns,zs[i]?=some z→nss[i]?=some ns→∃ a,z=.ref a∧SqL X.K H a (ns.map V.int))∧zs.length < 64∧(zs.length < 2→P0 (List.range zs.length).toArray)∧(2≤zs.length→Tr (fun i j b=>b=lexI (nss.getD i []) (nss.getD j [])) zs.length P0 (kas_sort zs.length))∧
  ∀ (d:Addr) (q:Array Nat),H d=none→q.size=zs.length→P0 q→Q (.ref d) (upd H d (.lst (q.toList.map fun i=>zs.getD i .non)))):=by
 intro pins s σ H xs us Q I r h
 obtain ⟨p,zs,nss,P0,rfl,hp,hl,hz,h64,h0,hT,q⟩:=h
 obtain ⟨u,rfl,ru⟩:=r.one
 cases ru
 obtain ⟨its,rv,pl,hsz⟩:=I.list hp
 have hlen:=rv.length
 have hs:sizeLine=16777216:=sizeLine_eq
 refine Calls.call_function_entry kind_sorted plain_sorted entry_sorted (args_sorted1 _) ?_
 unfold Builtin.«sorted»
 refine wpAny_bind (m:=checkCount "sorted" 1 1 _) (wpAny_pure ?_)
 refine wpAny_bind (collect_list pl.isList ?_ (by omega))
 obtain ⟨h',eh⟩:∃ h',(s.heap.push (seqObj "list" #[] 0)).update s.heap.objs.size (Obj.mapSeq fun x=>x++its.toArray)=h':=⟨_,rfl⟩
 have old1:∀ b o,s.heap.get? b=some o→h'.get? b=some o:=fun b o e=>by
  have hlt:=Heap.lt_size e
  rw [← eh,Heap.get?_update_ne _ _ _ _ (Nat.ne_of_lt hlt)]
  exact Heap.get?_push_of_some _ e
 have hsz':h'.objs.size=s.heap.objs.size+1:=by rw [← eh,Heap.size_update,size_push']
 rw [eh]
 refine wpAny_bind (wpAny_newList ?_ (by omega))
 have hoL:(h'.push (seqObj "list" its.toArray 0)).get? h'.objs.size=some (seqObj "list" its.toArray 0):=Heap.get?_push_size _ rfl
 refine wpAny_bind (wpAny_holding (wpAny_call_entry slot_list_sort ⟨_,hoL,rfl⟩ entry_list_sort (q5f (nss:=nss) (P0:=P0) hoL ?_ (by omega) (fun i v ns hv hn=>?_) (by omega) (by rw [← hlen];exact h0) (by rw [← hlen];exact hT) fun q' hq hP=>⟨_,rfl,?_⟩) (args_list_sort _)))
 ·show X.A.units+1+1 < cLine
  omega
 ·obtain ⟨z,ez⟩:∃ z,zs[i]?=some z:=⟨_,List.getElem?_eq_getElem (by have:=(List.getElem?_eq_some_iff.mp hv).1;omega)⟩
  obtain ⟨a,rfl,ha⟩:=hz i z ns ez hn
  obtain ⟨u,eu,ru⟩:=rv.get ez
  rw [hv] at eu
  cases eu
  cases ru
  obtain ⟨its',rv',⟨o,n',ho,hc,hd,hdt⟩,_⟩:=I.list ha
  have hlt:=Heap.lt_size ho
  exact ⟨a,its',rfl,by rw [hsz'];exact Nat.ne_of_lt (Nat.lt_succ_of_lt hlt),⟨o,Heap.get?_push_of_some _ (old1 _ _ ho),hc,n',hdt⟩,q4e rv'⟩
 refine wpAny_pure ⟨_,rfl,?_⟩
 obtain ⟨e,he⟩:=sortedHeap_at (out:=selV its q') hoL
 have old:∀ b o,s.heap.get? b=some o→(sortedHeap (h'.push (seqObj "list" its.toArray 0)) h'.objs.size its (selV its q')).get? b=some o:=fun b o eb'=>by
  have hlt:=Heap.lt_size eb'
  rw [sortedHeap_old (by rw [hsz'];exact Nat.ne_of_lt (Nat.lt_succ_of_lt hlt)) (by rw [size_push',hsz'];exact Nat.lt_succ_of_lt (Nat.lt_succ_of_lt hlt))]
  exact Heap.get?_push_of_some _ (old1 _ _ eb')
 have hn:H h'.objs.size=none:=by
  rw [hsz']
  exact I.hok.fresh (Nat.le_succ _)
 refine ⟨.ref h'.objs.size,_,I.laid (t':=s.toks) old (by rw [hsz'];omega) (a:=h'.objs.size) (o:=.lst (q'.toList.map fun i=>zs.getD i .non)) ⟨?_,(selV its q').toList,e,z0u rv _,?_⟩,rfl,q _ q' hn (by omega) hP⟩
 ·rw [List.length_map,Array.length_toList]
  omega
 ·rw [he]
end L2
namespace L2
open PySem PySem.Spec PyProof.Rows XL PySem.Calls PySem.W
inductive rcLenI (K:W.Frag) (xs:List V) (H:Hp) (Q:VK):Prop
 | mk (p ys:_):(xs=[.ref p])→((SqL K H p ys∨SqT K H p ys))→(Q (.int ys.length) H)→rcLenI K xs H Q
def rcLen (K:W.Frag):List V→Hp→VK→Prop:=fun xs H Q=>rcLenI K xs H Q
inductive rcListI (K:W.Frag) (xs:List V) (H:Hp) (Q:VK):Prop
 | mk (p ys:_):(xs=[.ref p])→((SqL K H p ys∨SqT K H p ys))→(∀ l,H l=none→Q (.ref l) (upd H l (.lst ys)))→rcListI K xs H Q
def rcList (K:W.Frag):List V→Hp→VK→Prop:=fun xs H Q=>rcListI K xs H Q
inductive rcSumI (K:W.Frag) (xs:List V) (H:Hp) (Q:VK):Prop
 | mk (p:Addr) (ns:List Int):(xs=[.ref p])→(SqL K H p (ns.map V.int))→(Q (.int ns.sum) H)→rcSumI K xs H Q
def rcSum (K:W.Frag):List V→Hp→VK→Prop:=fun xs H Q=>rcSumI K xs H Q
inductive rcAllI (K:W.Frag) (xs:List V) (H:Hp) (Q:VK):Prop
 | mk (p:Addr) (bs:List Bool):(xs=[.ref p])→(SqL K H p (bs.map V.bl))→(Q (.bl (bs.all id)) H)→rcAllI K xs H Q
def rcAll (K:W.Frag):List V→Hp→VK→Prop:=fun xs H Q=>rcAllI K xs H Q
inductive rcSetI (K:W.Frag) (xs:List V) (H:Hp) (Q:VK):Prop
 | mk (p:Addr) (ns:List Int):(xs=[.ref p])→(SqL K H p (ns.map V.int))→(ns.length+1 < scanBound)→(∀ d,H d=none→Q (.ref d) (upd H d (.set (fun k=>(q0j ns).any (· == k)) (q0j ns).length)))→rcSetI K xs H Q
def rcSet (K:W.Frag):List V→Hp→VK→Prop:=fun xs H Q=>rcSetI K xs H Q
section
variable {X:Cx}
theorem q48:q2i X (.builtin "len") (rcLen X.K):=fun pins s σ H xs us Q I r h=>by
 obtain ⟨a0,a1,a2,a3,a4⟩:=h
 exact q8a pins s σ H xs us Q I r ⟨a0,a1,a2,a3,a4⟩
theorem q5d:q2i X (.type "list") (rcList X.K):=fun pins s σ H xs us Q I r h=>by
 obtain ⟨a0,a1,a2,a3,a4⟩:=h
 exact q97 pins s σ H xs us Q I r ⟨a0,a1,a2,a3,a4⟩
theorem c_sum (hc:X.calm=true):q2i X (.builtin "sum") (rcSum X.K):=fun pins s σ H xs us Q I r h=>by
 obtain ⟨a0,a1,a2,a3,a4⟩:=h
 exact call_sumA hc pins s σ H xs us Q I r ⟨a0,a1,a2,a3,a4⟩
theorem c_all (hc:X.calm=true):q2i X (.builtin "all") (rcAll X.K):=fun pins s σ H xs us Q I r h=>by
 obtain ⟨a0,a1,a2,a3,a4⟩:=h
 exact call_allB hc pins s σ H xs us Q I r ⟨a0,a1,a2,a3,a4⟩
theorem c_set (hc:X.calm=true):q2i X (.type "set") (rcSet X.K):=fun pins s σ H xs us Q I r h=>by
 obtain ⟨a0,a1,a2,a3,a4,a5⟩:=h
 exact call_setI hc pins s σ H xs us Q I r ⟨a0,a1,a2,a3,a4,a5⟩
end
end L2
namespace L2
open PySem PySem.Spec PyProof.Rows XL PySem.Calls PySem.W
theorem z1v:∀ {ys:List V} {cs its:List Value},Paired (fun y c=>clsV y=some c) ys cs→Vals ys its→its=cs
 | [],_,_,.nil,r=>by cases r;rfl
 | _::_,_,_,.cons h t,r=>by
  cases r with
  | cons r1 r2=>rw [z1v t r2,z1t h r1]
theorem q5a {K:W.Frag} {t:Value}:∀ {cs:List Value},(∀ c∈cs,W.kitOne K t c=some false)→W.kitAny K t cs=some false
 | [],_=>rfl
 | c::r,h=>by
  unfold W.kitAny
  rw [h c (List.mem_cons_self ..)]
  exact q5a fun x hx=>h x (List.mem_cons_of_mem _ hx)
theorem q3h {X:Cx}:q2i X (.builtin "isinstance") (fun xs H Q=>∃ (a C t:Addr) (ys:List V) (cs:List Value) (b:Bool),xs=[.ref a,.ref t]∧H t=some (.tup ys)∧Paired (fun y c=>clsV y=some c) ys cs∧H a=some (excO a (.ref C))∧ErrA X.K C∧W.kitAny X.K (.ref C) cs=some b∧Q (.bl b) H):=by
 rintro pins s σ H xs us Q I r ⟨a,C,t,ys,cs,b,rfl,ht,hp,ea,er,hk,q⟩
 obtain ⟨u,w',rfl,r1,r2⟩:=vals2 r
 cases (show u=Value.ref a from r1)
 cases (show w'=Value.ref t from r2)
 obtain ⟨its,rv,⟨o,ho,hcl,n,hdat⟩,_⟩:=I.tuple (SqT.of ht)
 cases z1v hp rv
 obtain ⟨oc,od,odat,osl⟩:=o
 cases hcl
 cases hdat
 exact W.kia_tup (z0z er) I.kIn (I.exc ea) ho hk (fun z=>nomatch z) fun tk=>⟨.bl b,H,I.tok tk,rfl,q⟩
end L2
namespace L2
open PySem PySem.Spec PyProof.Rows
section
variable {X:Cx}
theorem q95:∀ {xs:List V} {us:List Value} (k:Nat),Vals xs us→Vals (xs.take k) (us.take k)
 | _,_,0,_=>by rw [List.take_zero,List.take_zero];exact .nil
 | _,_,_+1,.nil=>.nil
 | _,_,k+1,.cons a t=>.cons a (q95 k t)
theorem q7y:∀ {xs:List V} {us:List Value} (k:Nat),Vals xs us→Vals (xs.drop k) (us.drop k)
 | _,_,0,h=>h
 | _,_,_+1,.nil=>.nil
 | _,_,k+1,.cons a t=>q7y k t
def rInsert:V→List V→Hp→VK→Prop:=fun x vs H Q=>∃ (l:Addr) (xs:List V) (k:Nat) (y:V),x=.ref l∧vs=[.int (k:Int),y]∧H l=some (.lst xs)∧k≤xs.length∧xs.length < 1000∧Q .non (upd H l (.lst (xs.take k++y::xs.drop k)))
theorem mt_insert:MtM X "list.insert" rInsert:=by
 intro pins s σ H x vs v us Q I rx rv h
 obtain ⟨l,xs,k,y,rfl,rfl,hH,hk,hz,q⟩:=h
 cases rx
 obtain ⟨u1,u2,rfl,r1,r2⟩:=rv.two
 obtain ⟨t,rfl⟩:=r1
 obtain ⟨z,its,n,r,hl,e⟩:=I.lstM hH
 have hsz : its.length ≤ sizeLine := by rw [← hl]; have : 1000 < sizeLine := by decide +kernel
                                        omega
 have hf:Builtin.List.listFitsIndex (k:Int)=true:=fitsIndex_both (by omega) (by omega)
 have hs2:its.toArray.size≤sizeLine:=by rw [List.size_toArray];exact hsz
 have hf2:¬ (!Builtin.List.listFitsIndex (k:Int))=true:=by rw [hf];decide
 generalize hkk:(k:Int)=kk at hf2
 have M:=AutoSeq1.list_insert_list_int_val_1 l its.toArray n kk t u2 hf2 hs2
 refine call_meets F.slot_list_insert ⟨_,e,rfl⟩ F.entry_list_insert (F.args_list_insert_3 _ _ _) M ⟨e,?_⟩
 refine ⟨.non,_,I.lset (its':=its.take k++u2::its.drop k) hH e ?_ ((q95 k r).append (.cons r2 (q7y k r))) ?_,rfl,q⟩
 ·have e1:(if kk < 0 then (kk+(its.toArray.size:Int)).toNat else min kk.toNat its.toArray.size)=k:=by
   rw [← hkk,if_neg (by omega),Int.toNat_natCast,List.size_toArray,← hl]
   omega
  show (its.toArray.extract 0 (if kk < 0 then (kk+(its.toArray.size:Int)).toNat else min kk.toNat its.toArray.size)).push u2++its.toArray.extract (if kk < 0 then (kk+(its.toArray.size:Int)).toNat else min kk.toNat its.toArray.size)=_
  rw [e1]
  apply Array.toList_inj.mp
  have e2:(its.drop k).take (its.length - k)=its.drop k:=List.take_of_length_le (by rw [List.length_drop];exact Nat.le_refl _)
  simp [List.extract_eq_take_drop,e2]
 ·have:1000 < sizeLine:=by decide +kernel
  simp only [List.length_append,List.length_cons,List.length_take,List.length_drop]
  omega
end
end L2
namespace L2
open PySem PySem.Spec PyProof.Rows XL PySem.Calls PySem.W
section
variable {X:Cx}
end
end L2
namespace L2
open PySem PySem.Spec PyProof.Rows XL PySem.Calls PySem.W
structure Ord (L:Nat→Nat→Bool) (n:Nat):Prop where
 tot:∀ i j,i < n→j < n→i≠j→L i j=false→L j i=true
 trn:∀ i j k,i < n→j < n→k < n→L i j=true→L j k=true→L i k=true
section
variable {L:Nat→Nat→Bool} {n:Nat}
def Asc (L:Nat→Nat→Bool) (p:Array Nat) (k:Nat):Prop:=∀ i j,i < j→j < k→L (p.getD i 0) (p.getD j 0)=true
def Dsc (L:Nat→Nat→Bool) (p:Array Nat) (k:Nat):Prop:=∀ i j,i < j→j < k→L (p.getD j 0) (p.getD i 0)=true
theorem PR.size {p:Array Nat} (h:PR n p):p.size=n:=by
 have:=h.length_eq
 simpa using this
theorem q3b (p:Array Nat) (i:Nat):p.getD i 0=(p[i]?).getD 0:=Array.getD_eq_getD_getElem?
theorem PR.ne {p:Array Nat} (h:PR n p) {i j:Nat} (hi:i < n) (hj:j < n) (hij:i≠j):p.getD i 0≠p.getD j 0:=by
 have hs:=h.size
 have nd:p.toList.Nodup:=(h.nodup_iff).mpr List.nodup_range
 intro e
 rw [q3b,q3b,Array.getElem?_eq_getElem (by omega),Array.getElem?_eq_getElem (by omega)] at e
 have e:p.toList[i]'(by simp;omega)=p.toList[j]'(by simp;omega):=by simpa using e
 exact hij ((List.getElem_inj nd).mp e)
theorem q9z (O:Ord L n) {p:Array Nat} (h:PR n p) (hn:0 < n):∀ (f a:Nat),1≤a→a+f≤n→Asc L p a→Tr (fun i j b=>b=L i j) n (fun m=>a≤m∧m≤a+f∧Asc L p m∧(m=a+f∨L (p.getD m 0) (p.getD (m - 1) 0)=true)) (kas_asc p f a)
 | 0,a,h1,h2,h3=>⟨Nat.le_refl _,Nat.le_refl _,h3,.inl rfl⟩
 | f+1,a,h1,h2,h3=>⟨h.lt hn _,h.lt hn _,fun b hb=>by
  cases b with
  | true=>exact ⟨Nat.le_refl _,by omega,h3,.inr hb.symm⟩
  | false=>
   have hl:=O.tot _ _ (h.lt hn a) (h.lt hn (a - 1)) (h.ne (by omega) (by omega) (by omega)) hb.symm
   have h4:Asc L p (a+1):=fun i j hij hj=>by
    by_cases e:j=a
    ·subst e
     by_cases e2:i=j - 1
     ·subst e2
      exact hl
     ·exact O.trn _ _ _ (h.lt hn _) (h.lt hn _) (h.lt hn _) (h3 i (j - 1) (by omega) (by omega)) hl
    ·exact h3 i j hij (by omega)
   refine Tr.imp (fun m hm=>?_) (q9z O h hn f (a+1) (by omega) (by omega) h4)
   obtain ⟨q1,q2,q3,q4⟩:=hm
   exact ⟨by omega,by omega,q3,q4.imp (fun z=>by omega) id⟩⟩
theorem z0r (O:Ord L n) {p:Array Nat} (h:PR n p) (hn:0 < n):∀ (f a:Nat),1≤a→a+f≤n→Dsc L p a→Tr (fun i j b=>b=L i j) n (fun r=>r.1=p∧r.2.2=0∧1≤r.2.1∧r.2.1≤n∧Dsc L p r.2.1) (kas_desc f p a 0)
 | 0,a,h1,h2,h3=>⟨rfl,rfl,h1,by show a≤n;omega,h3⟩
 | f+1,a,h1,h2,h3=>⟨h.lt hn _,h.lt hn _,fun b hb=>by
  cases b with
  | true=>
   show Tr _ n _ (if 0 > 0 then kas_desc f (kas_rev p (a - (0+1)) a) (a+1) 0 else kas_desc f p (a+1) 0)
   rw [if_neg (by omega)]
   refine z0r O h hn f (a+1) (by omega) (by omega) fun i j hij hj=>?_
   have hl:=hb.symm
   by_cases e:j=a
   ·subst e
    by_cases e2:i=j - 1
    ·subst e2
     exact hl
    ·exact O.trn _ _ _ (h.lt hn _) (h.lt hn _) (h.lt hn _) hl (h3 i (j - 1) (by omega) (by omega))
   ·exact h3 i j hij (by omega)
  | false=>
   have hl:=O.tot _ _ (h.lt hn a) (h.lt hn (a - 1)) (h.ne (by omega) (by omega) (by omega)) hb.symm
   refine ⟨h.lt hn _,h.lt hn _,fun d hd=>?_⟩
   have hd:d=L (p.getD (a - 1) 0) (p.getD a 0):=hd
   rw [hl] at hd
   subst hd
   exact ⟨rfl,rfl,h1,by show a≤n;omega,h3⟩⟩
theorem rev_at {p:Array Nat} {a:Nat} (ha:a≤p.size) (k:Nat):(kas_rev p 0 a).getD k 0=if k < a then p.getD (a - 1 - k) 0 else p.getD k 0:=by
 rw [q3b,q3b,q3b]
 unfold kas_rev
 rw [getElem?_mirror_all ha]
 by_cases h:k < a
 ·rw [if_pos ⟨Nat.zero_le _,h⟩,if_pos h,Nat.zero_add]
 ·rw [if_neg (fun z=>h z.2),if_neg h]
theorem tr_tail2 (O:Ord L n) {p:Array Nat} (h:PR n p) (hn:0 < n) {a:Nat} (h1:1≤a) (h2:a≤n) (hd:Dsc L p a):Tr (fun i j b=>b=L i j) n (fun r=>PR n r.2∧1≤r.1∧r.1≤n∧Asc L r.2 r.1) (kas_tail3 a n p):=by
 have hr:Asc L (kas_rev p 0 a) a:=fun i j hij hj=>by
  rw [rev_at (by rw [h.size];exact h2),rev_at (by rw [h.size];exact h2),if_pos (by omega),if_pos hj]
  exact hd _ _ (by omega) (by omega)
 refine Tr.bind (fun m hm=>?_) (q9z O (h.rev 0 a) hn (n - a) a h1 (by omega) hr)
 obtain ⟨q1,q2,q3,_⟩:=hm
 exact ⟨h.rev _ _,by show 1≤m;omega,by show m≤n;omega,q3⟩
theorem tr_count2 (O:Ord L n) {p:Array Nat} (h:PR n p) (hn:0 < n):Tr (fun i j b=>b=L i j) n (fun r=>PR n r.2∧1≤r.1∧r.1≤n∧Asc L r.2 r.1) (kas_count n p):=by
 refine Tr.bind (fun a ha=>?_) (q9z O h hn (n - 1) 1 (Nat.le_refl _) (by omega) fun i j hij hj=>by omega)
 obtain ⟨q1,q2,q3,q4⟩:=ha
 show Tr _ n _ (if (a == n)=true then _ else _)
 split
 ·rename_i e
  have e:a=n:=by simpa using e
  exact ⟨h,by show 1≤a;omega,by show a≤n;omega,q3⟩
 ·rename_i e
  have e:a≠n:=by simpa using e
  split
  ·refine ⟨h.lt hn _,h.lt hn _,fun b hb=>?_⟩
   have hb:b=L (p.getD 0 0) (p.getD (a - 1) 0):=hb
   rw [q3 0 (a - 1) (by omega) (by omega)] at hb
   subst hb
   exact ⟨h,by show 1≤a;omega,by show a≤n;omega,q3⟩
  ·have ea:a=1:=by omega
   subst ea
   have hl:L (p.getD 1 0) (p.getD 0 0)=true:=q4.resolve_left (by omega)
   refine Tr.bind (fun r hr=>?_) (z0r O h hn (n - (1+1)) (1+1) (by omega) (by omega) fun i j hij hj=>by
    have e1:i=0:=by omega
    have e2:j=1:=by omega
    subst e1
    subst e2
    exact hl)
   obtain ⟨r1,r2,r3,r4,r5⟩:=hr
   show Tr _ n _ (if r.snd.snd > 0 then _ else _)
   rw [if_neg (by omega),r1]
   exact tr_tail2 O h hn r3 r4 r5
theorem q67 (O:Ord L n) {p:Array Nat} (h:PR n p) (hn:0 < n) {k:Nat} (hk:k < n) (ha:Asc L p k):∀ (f l r:Nat),l≤r→r≤k→r - l≤f→(∀ i,i < l→L (p.getD i 0) (p.getD k 0)=true)→(∀ i,r≤i→i < k→L (p.getD k 0) (p.getD i 0)=true)→
  Tr (fun i j b=>b=L i j) n (fun m=>m≤k∧(∀ i,i < m→L (p.getD i 0) (p.getD k 0)=true)∧∀ i,m≤i→i < k→L (p.getD k 0) (p.getD i 0)=true) (kas_place p k f l r)
 | 0,l,r,h1,h2,h3,h4,h5=>⟨by omega,h4,fun i hi hik=>h5 i (by omega) hik⟩
 | f+1,l,r,h1,h2,h3,h4,h5=>by
  show Tr _ n _ (if l ≥ r then _ else _)
  split
  ·exact ⟨by omega,h4,fun i hi hik=>h5 i (by omega) hik⟩
  ·rename_i hlr
   refine ⟨h.lt hn _,h.lt hn _,fun b hb=>?_⟩
   have hm1:l≤(l+r) / 2:=by omega
   have hm2:(l+r) / 2 < r:=by omega
   cases b with
   | true=>
    refine q67 O h hn hk ha f l ((l+r) / 2) hm1 (by omega) (by omega) h4 fun i hi hik=>?_
    by_cases e:i=(l+r) / 2
    ·rw [e];exact hb.symm
    ·exact O.trn _ _ _ (h.lt hn _) (h.lt hn _) (h.lt hn _) hb.symm (ha _ i (by omega) hik)
   | false=>
    have hl:=O.tot _ _ (h.lt hn k) (h.lt hn ((l+r) / 2)) (h.ne hk (by omega) (by omega)) hb.symm
    refine q67 O h hn hk ha f ((l+r) / 2+1) r (by omega) h2 (by omega) (fun i hi=>?_) h5
    by_cases e:i=(l+r) / 2
    ·rw [e];exact hl
    ·exact O.trn _ _ _ (h.lt hn _) (h.lt hn _) (h.lt hn _) (ha i _ (by omega) (by omega)) hl
theorem bub_at {p:Array Nat} {k l:Nat} (hk:k < p.size) (hl:l≤k) (i:Nat):(bubble p k (k - l)).getD i 0=if i=l then p.getD k 0 else if l < i∧i≤k then p.getD (i - 1) 0 else p.getD i 0:=by
 simp only [q3b]
 rw [getElem?_bubble hk (k - l) (by omega),show k - (k - l)=l by omega]
 by_cases e1:i=l
 ·rw [if_pos e1,if_pos e1]
 ·rw [if_neg e1,if_neg e1]
  by_cases e2:l < i∧i≤k
  ·rw [if_pos e2,if_pos e2]
  ·rw [if_neg e2,if_neg e2]
theorem tr_bin2 (O:Ord L n) (hn:0 < n):∀ (f:Nat) (p:Array Nat) (k:Nat),PR n p→k+f=n→Asc L p k→Tr (fun i j b=>b=L i j) n (fun p=>PR n p∧Asc L p n) (kas_bin f p k)
 | 0,p,k,h,e,ha=>⟨h,by rw [← e];exact ha⟩
 | f+1,p,k,h,e,ha=>by
  refine Tr.bind (fun l hl=>?_) (q67 O h hn (by omega) ha k 0 k (by omega) (Nat.le_refl _) (by omega) (fun i hi=>by omega) (fun i h1 h2=>by omega))
  obtain ⟨q1,q2,q3⟩:=hl
  refine tr_bin2 O hn f _ _ (h.bub _ _) (by omega) fun i j hij hj=>?_
  have hs:k < p.size:=by rw [h.size];omega
  rw [bub_at hs q1,bub_at hs q1]
  by_cases e1:i=l
  ·rw [if_pos e1,if_neg (by omega),if_pos ⟨by omega,by omega⟩]
   exact q3 _ (by omega) (by omega)
  ·rw [if_neg e1]
   by_cases e2:j=l
   ·rw [if_pos e2,if_neg (by omega)]
    exact q2 i (by omega)
   ·rw [if_neg e2]
    by_cases e3:l < i
    ·rw [if_pos ⟨e3,by omega⟩,if_pos ⟨by omega,by omega⟩]
     exact ha _ _ (by omega) (by omega)
    ·rw [if_neg (by omega)]
     by_cases e4:l < j
     ·rw [if_pos ⟨e4,by omega⟩]
      exact ha _ _ (by omega) (by omega)
     ·rw [if_neg (by omega)]
      exact ha _ _ hij (by omega)
theorem tr_sort2 (O:Ord L n) (hn:0 < n):Tr (fun i j b=>b=L i j) n (fun p=>PR n p∧Asc L p n) (kas_sort n):=by
 refine Tr.bind (fun r hr=>?_) (tr_count2 O (p:=(List.range n).toArray) (by simp [PR]) hn)
 obtain ⟨r1,r2,r3,r4⟩:=hr
 show Tr _ n _ (if r.fst < n then _ else _)
 split
 ·rw [show max r.fst 1=r.fst by omega]
  exact tr_bin2 O hn _ _ _ r1 (by omega) r4
 ·have:r.fst=n:=by omega
  exact ⟨r1,by rw [← this];exact r4⟩
end
end L2
namespace L2
open PySem PySem.Spec PyProof.Rows XL PySem.Calls PySem.W
theorem z1h:∀ {a b:List Int},a≠b→lexI a b=false→lexI b a=true
 | [],[],h,_=>absurd rfl h
 | [],_::_,_,h=>by simp [lexI] at h
 | _::_,[],_,_=>rfl
 | x::a,y::b,h,e=>by
  unfold lexI at e ⊢
  by_cases q:x=y
  ·subst q
   rw [if_pos rfl] at e ⊢
   exact z1h (fun z=>h (by rw [z])) e
  ·rw [if_neg q] at e
   rw [if_neg (Ne.symm q)]
   have:=of_decide_eq_false e
   exact decide_eq_true (by omega)
theorem z1r:∀ {a b c:List Int},lexI a b=true→lexI b c=true→lexI a c=true
 | [],_,[],h1,h2=>by
  rename_i b
  cases b with
  | nil=>exact h2
  | cons _ _=>simp [lexI] at h2
 | [],_,_::_,_,_=>rfl
 | _::_,[],_,h1,_=>by simp [lexI] at h1
 | _::_,_::_,[],_,h2=>by simp [lexI] at h2
 | x::a,y::b,z::c,h1,h2=>by
  unfold lexI at h1 h2 ⊢
  by_cases q1:x=y
  ·subst q1
   rw [if_pos rfl] at h1
   by_cases q2:x=z
   ·subst q2
    rw [if_pos rfl] at h2 ⊢
    exact z1r h1 h2
   ·rw [if_neg q2] at h2 ⊢
    exact h2
  ·rw [if_neg q1] at h1
   have h1:=of_decide_eq_true h1
   by_cases q2:y=z
   ·subst q2
    rw [if_neg q1]
    exact decide_eq_true h1
   ·rw [if_neg q2] at h2
    have h2:=of_decide_eq_true h2
    rw [if_neg (by omega)]
    exact decide_eq_true (by omega)
theorem ord_lists {nss:List (List Int)} (nd:nss.Nodup):Ord (fun i j=>lexI (nss.getD i []) (nss.getD j [])) nss.length:=by
 refine ⟨fun i j hi hj hij h=>z1h (fun e=>hij ?_) h,fun i j k _ _ _ h1 h2=>z1r h1 h2⟩
 rw [List.getD_eq_getElem?_getD,List.getD_eq_getElem?_getD,List.getElem?_eq_getElem hi,List.getElem?_eq_getElem hj] at e
 exact (List.getElem_inj nd).mp e
theorem q4y {X:Cx} (hu:X.A.units+64 < cLine):q2i X (.builtin "sorted") (fun xs H Q=>∃ (p:Addr) (zs:List V) (nss:List (List Int)),xs=[.ref p]∧SqL X.K H p zs∧zs.length=nss.length∧
  (∀ (i:Nat) z ns,zs[i]?=some z→nss[i]?=some ns→∃ a,z=.ref a∧SqL X.K H a (ns.map V.int))∧zs.length < 64∧
  ∀ (d:Addr) (l:List Nat),H d=none→l.Perm (List.range zs.length)→(nss.Nodup→(l.map fun i=>nss.getD i []).Pairwise fun a b=>lexI a b=true)→Q (.ref d) (upd H d (.lst (l.map fun i=>zs.getD i .non)))):=by
 intro pins s σ H xs us Q I r h
 obtain ⟨p,zs,nss,e,hp,hl,hz,h64,q⟩:=h
 refine q8o hu pins s σ H xs us Q I r ⟨p,zs,nss,fun a=>PR zs.length a∧(nss.Nodup→Asc (fun i j=>lexI (nss.getD i []) (nss.getD j [])) a zs.length),e,hp,hl,hz,h64,fun h=>⟨by simp [PR],fun _ i j h1 h2=>by omega⟩,fun h2=>?_,fun d q' hd _ hq=>q d _ hd hq.1 fun nd=>?_⟩
 ·by_cases nd:nss.Nodup
  ·have O:=ord_lists nd
   rw [← hl] at O
   exact Tr.imp (fun a ha=>⟨ha.1,fun _=>ha.2⟩) (tr_sort2 O (by omega))
  ·exact Tr.imp (fun a ha=>⟨ha,fun z=>absurd z nd⟩) (tr_sort (by omega))
 ·have hs:=hq.1.size
  have ha:=hq.2 nd
  rw [List.pairwise_iff_getElem]
  intro i j h1 h2 hij
  rw [List.length_map] at h1 h2
  rw [List.getElem_map,List.getElem_map]
  have:=ha i j hij (by simp at h2;omega)
  rw [q3b,q3b,Array.getElem?_eq_getElem (by simp at h1;omega),Array.getElem?_eq_getElem (by simp at h2;omega)] at this
  simpa using this
end L2
namespace L2
open PySem PySem.Spec PyProof.Rows XL PySem.Calls PySem.W
structure SI (led:Bool) (t:SetTable):Prop where
 led:t.led=led
 up:t.place.toList.Pairwise (· < ·)
 dum:t.dummies=#[]
theorem q76 {xs:Array Nat} {i j:Nat} (h:i < xs.size):xs.getD i j=xs[i]:=by
 rw [Array.getD_eq_getD_getElem?,Array.getElem?_eq_getElem h]
 rfl
theorem up_lt {xs:Array Nat} (h:xs.toList.Pairwise (· < ·)) {i k:Nat} (hik:i < k) (hk:k < xs.size):xs[i] < xs[k]:=by
 have:=List.pairwise_iff_getElem.mp h i k (by simp;omega) (by simpa using hk) hik
 simpa using this
theorem q77 {xs:Array Nat} {j:Nat} (hup:xs.toList.Pairwise (· < ·)):∀ (fuel lo hi:Nat),hi - lo≤fuel→lo≤hi→hi≤xs.size→(∀ i (h:i < xs.size),i < lo→xs[i] < j)→(∀ i (h:i < xs.size),hi≤i→j≤xs[i])→
  SetTable.below.go xs j fuel lo hi≤xs.size∧(∀ i (h:i < xs.size),i < SetTable.below.go xs j fuel lo hi→xs[i] < j)∧∀ i (h:i < xs.size),SetTable.below.go xs j fuel lo hi≤i→j≤xs[i]
 | 0,lo,hi,hf,hl,hs,h1,h2=>by
  have e:lo=hi:=by omega
  subst e
  exact ⟨hs,h1,h2⟩
 | fuel+1,lo,hi,hf,hl,hs,h1,h2=>by
  by_cases hlt:lo < hi
  ·have hm:(lo+hi) / 2 < xs.size:=by omega
   by_cases hx:xs.getD ((lo+hi) / 2) j < j
   ·have e:SetTable.below.go xs j (fuel+1) lo hi=SetTable.below.go xs j fuel ((lo+hi) / 2+1) hi:=by
     show (if lo < hi then (let mid:=(lo+hi) / 2;if xs.getD mid j < j then SetTable.below.go xs j fuel (mid+1) hi else SetTable.below.go xs j fuel lo mid) else lo)=_
     rw [if_pos hlt]
     show (if xs.getD ((lo+hi) / 2) j < j then _ else _)=_
     rw [if_pos hx]
    rw [e]
    rw [q76 hm] at hx
    refine q77 hup fuel _ _ (by omega) (by omega) hs (fun i h hi'=>?_) h2
    rcases Nat.lt_or_eq_of_le (show i≤(lo+hi) / 2 by omega) with z | z
    ·exact Nat.lt_trans (up_lt hup z hm) hx
    ·subst z
     exact hx
   ·have e:SetTable.below.go xs j (fuel+1) lo hi=SetTable.below.go xs j fuel lo ((lo+hi) / 2):=by
     show (if lo < hi then (let mid:=(lo+hi) / 2;if xs.getD mid j < j then SetTable.below.go xs j fuel (mid+1) hi else SetTable.below.go xs j fuel lo mid) else lo)=_
     rw [if_pos hlt]
     show (if xs.getD ((lo+hi) / 2) j < j then _ else _)=_
     rw [if_neg hx]
    rw [e]
    rw [q76 hm] at hx
    refine q77 hup fuel _ _ (by omega) (by omega) (by omega) h1 (fun i h hi'=>?_)
    rcases Nat.lt_or_eq_of_le hi' with z | z
    ·exact Nat.le_trans (Nat.not_lt.mp hx) (Nat.le_of_lt (up_lt hup z h))
    ·subst z
     exact Nat.not_lt.mp hx
  ·have e:SetTable.below.go xs j (fuel+1) lo hi=lo:=by
    show (if lo < hi then _ else lo)=_
    rw [if_neg hlt]
   have e2:lo=hi:=by omega
   subst e2
   rw [e]
   exact ⟨hs,h1,h2⟩
theorem z1g {xs:Array Nat} {j:Nat} (hup:xs.toList.Pairwise (· < ·)):SetTable.below xs j≤xs.size∧(∀ i (h:i < xs.size),i < SetTable.below xs j→xs[i] < j)∧∀ i (h:i < xs.size),SetTable.below xs j≤i→j≤xs[i]:=
 q77 hup xs.size 0 xs.size (by omega) (Nat.zero_le _) (Nat.le_refl _) (fun i h z=>absurd z (Nat.not_lt_zero _)) (fun i h z=>by omega)
theorem insert_up {xs:Array Nat} {j:Nat} (hup:xs.toList.Pairwise (· < ·)) (hj:xs[SetTable.below xs j]?≠some j):(SetTable.insertAt xs (SetTable.below xs j) j).toList.Pairwise (· < ·):=by
 obtain ⟨b0,b1,b2⟩:=z1g (j:=j) hup
 rw [SetTable.toList_insertAt]
 have after:∀ i (h:i < xs.size),SetTable.below xs j≤i→j < xs[i]:=fun i h hi=>by
  rcases Nat.lt_or_eq_of_le hi with z | z
  ·have h0:=b2 _ (Nat.lt_trans z h) (Nat.le_refl _)
   exact Nat.lt_of_le_of_lt h0 (up_lt hup z h)
  ·have h0:=b2 i h hi
   refine Nat.lt_of_le_of_ne h0 fun e=>hj ?_
   rw [z,Array.getElem?_eq_getElem h,← e]
 refine List.pairwise_append.mpr ⟨hup.sublist (List.take_sublist _ _),List.pairwise_cons.mpr ⟨fun y hy=>?_,hup.sublist (List.drop_sublist _ _)⟩,fun x hx y hy=>?_⟩
 ·obtain ⟨k,hk,e⟩:=List.mem_iff_getElem.mp hy
  rw [List.getElem_drop] at e
  have hk':SetTable.below xs j+k < xs.size:=by
   rw [List.length_drop] at hk
   have:xs.toList.length=xs.size:=Array.length_toList
   omega
  have:=after _ hk' (Nat.le_add_right _ _)
  rw [← e]
  simpa using this
 ·obtain ⟨k,hk,e⟩:=List.mem_iff_getElem.mp hx
  rw [List.getElem_take] at e
  rw [List.length_take] at hk
  have hk':k < xs.size:=by
   have:xs.toList.length=xs.size:=Array.length_toList
   omega
  have h1:=b1 k hk' (by omega)
  have h1:x < j:=by
   rw [← e]
   simpa using h1
  rcases List.mem_cons.mp hy with z | z
  ·rw [z]
   exact h1
  ·obtain ⟨m,hm,e'⟩:=List.mem_iff_getElem.mp z
   rw [List.getElem_drop] at e'
   have hm':SetTable.below xs j+m < xs.size:=by
    rw [List.length_drop] at hm
    have:xs.toList.length=xs.size:=Array.length_toList
    omega
   have h2:=after _ hm' (Nat.le_add_right _ _)
   have h2:j < y:=by
    rw [← e']
    simpa using h2
   exact Nat.lt_trans h1 h2
theorem z1l (j:Nat):SetTable.has #[] j=false:=by
 unfold SetTable.has
 simp
theorem q6x {t:SetTable} (hd:t.dummies=#[]) {ha:Nat→Int} {h:Int}:∀ (fuel:Nat) (p:SetTable.Probe) (j:Nat) (d:Option Nat),p.dummy=none→SetTable.probe.go t ha h fuel p=some (.empty j d)→d=none∧t.place[SetTable.below t.place j]?≠some j
 | 0,p,j,d,hp,e=>by cases e
 | fuel+1,p,j,d,hp,e=>by
  have e0:SetTable.probe.go t ha h (fuel+1) p=(match t.slot p.j with
   | .empty=>some (.empty p.j p.dummy)
   | .dummy=>SetTable.probe.go t ha h fuel (t.advance { j:=p.j,more:=p.more,i:=p.i,perturb:=p.perturb,dummy:=some p.j })
   | .live i=>if (ha i == h)=true then some (.candidate p.j i (t.advance p)) else SetTable.probe.go t ha h fuel (t.advance p)):=rfl
  rw [e0] at e
  have es:t.slot p.j=(if (t.place[SetTable.below t.place p.j]? == some p.j)=true then .live (SetTable.below t.place p.j) else if SetTable.has t.dummies p.j=true then .dummy else .empty):=rfl
  by_cases hl:(t.place[SetTable.below t.place p.j]? == some p.j)=true
  ·rw [es,if_pos hl] at e
   dsimp only at e
   split at e
   ·cases e
   ·refine q6x hd fuel _ j d ?_ e
    unfold SetTable.advance
    split
    ·exact hp
    ·exact hp
  ·rw [es,if_neg hl,hd,z1l,if_neg Bool.false_ne_true] at e
   dsimp only at e
   injection e with e
   injection e with e1 e2
   subst e1
   refine ⟨by rw [← e2,hp],fun z=>hl ?_⟩
   rw [z]
   simp
theorem SI.put {led:Bool} {t:SetTable} (h:SI led t) {j:Nat} (hj:t.place[SetTable.below t.place j]?≠some j):SI led (t.put j).1:=by
 refine ⟨h.led,insert_up h.up hj,?_⟩
 show (if SetTable.has t.dummies j=true then _ else t.dummies)=#[]
 rw [h.dum,z1l,if_neg Bool.false_ne_true]
theorem SI.standIn {led:Bool} {t:SetTable} (h:SI led t) (n:Nat):SI led (t.standIn n):=by
 refine ⟨h.led,?_,rfl⟩
 show (Array.range n).toList.Pairwise (· < ·)
 rw [Array.toList_range]
 exact List.pairwise_lt_range
theorem SI.orStandIn {led:Bool} {t:SetTable} (h:SI led t) (n:Nat):SI led (t.orStandIn n):=by
 unfold SetTable.orStandIn
 split
 ·exact h
 ·exact h.standIn n
theorem SI.layNew {led:Bool} {t:SetTable} (h:SI led t) (es:Array (Int × Value)) (hh:Int) (x:Value):SI led (PySem.layNew t es hh x).2.1:=by
 unfold PySem.layNew
 split
 ·rename_i slot was e
  refine SI.orStandIn (h.put ?_) _
  unfold SetTable.freeSlot at e
  split at e
  ·rename_i j d ep
   cases e
   obtain ⟨rfl,hne⟩:=q6x h.dum _ _ j d rfl ep
   exact hne
  ·cases e
 ·exact h.standIn _
theorem SI.relaid {led:Bool} {t t':SetTable} {hs:Array Int} {n:Nat} {o:Array Nat} (h:SI led t) (e:t.relaid hs n=some (t',o)):SI led t':=by
 unfold SetTable.relaid SetTable.laid at e
 obtain ⟨owner,_,e⟩:=Option.bind_eq_some_iff.mp e
 injection e with e
 injection e with e1 e2
 subst e1
 refine ⟨h.led,?_,rfl⟩
 show ((List.filterMap (fun j=>Option.map (fun x=>(j,x)) (owner.getD j none)) (List.range _)).map (fun x=>x.1)).toArray.toList.Pairwise (· < ·)
 rw [List.toList_toArray,List.pairwise_map,List.pairwise_filterMap]
 refine List.pairwise_lt_range.imp fun {a b} hab x hx y hy=>?_
 obtain ⟨_,_,rfl⟩:=Option.map_eq_some_iff.mp hx
 obtain ⟨_,_,rfl⟩:=Option.map_eq_some_iff.mp hy
 exact hab
theorem SI.relayAll {led:Bool} {t:SetTable} (h:SI led t) (es:Array (Int × Value)) (n:Nat):SI led (PySem.relayAll t es n).2.1:=by
 unfold PySem.relayAll
 split
 ·rename_i t' o e
  dsimp only
  split
  ·exact h.relaid e
  ·exact h.standIn _
 ·exact h.standIn _
theorem SI.plain {led:Bool} {t:SetTable} (h:SI led t) (b:Bool):SI led (if b=true then t else { mask:=t.mask,place:=t.place,dummies:=t.dummies,finger:=t.finger,led:=t.led,moves:=t.moves,plain:=false }):=by
 split
 ·exact h
 ·exact ⟨h.led,h.up,h.dum⟩
theorem SI.fresh (led:Bool):SI led (SetTable.fresh 0 0 led):=⟨rfl,.nil,rfl⟩
end L2
namespace L2
open PySem PySem.Spec PyProof.Rows XL PySem.Calls PySem.W
structure SetSI {prog:Program} {w:World} {K:Type} [DecidableEq K] (knd:PySem.KeyKind prog w K) (h:Heap) (a:Addr) (S:K→Bool) (n:Nat) (led:Bool):Prop where
 ex:∃ (o:Obj) (es:Array (Int × Value)) (ep:Nat) (t:SetTable),h.get? a=some o∧o.ExactSet∧o.data=.set es ep t∧ElemsOf knd es.toList∧(∀ k,S k=true↔∃ e,e∈es.toList∧knd.is k e.snd=true)∧es.size < scanBound∧t.fits es.size=true∧es.size=n∧SI led t
section
variable {prog:Program} {w:World} {K:Type} [DecidableEq K] {knd:PySem.KeyKind prog w K}
theorem z20 {h:Heap} {a:Addr} {o:Obj} {es:Array (Int × Value)} {ep:Nat} {t:SetTable} (ho:h.get? a=some o) (hex:o.ExactSet) (hd:o.data=.set es ep t)
  {es':Array (Int × Value)} {t':SetTable} {S':K→Bool} {led:Bool} (hel:ElemsOf knd es'.toList) (hm:∀ k,S' k=true↔∃ e,e∈es'.toList∧knd.is k e.snd=true) (hb:es'.size < scanBound) (hf:t'.fits es'.size=true) (hs:SI led t') :
  (h.update a (Obj.putSet es' t')).get? a=some { cls:=o.cls,dict:=o.dict,data:=.set es' (ep+1) t',slots:=o.slots }∧SetSI knd (h.update a (Obj.putSet es' t')) a S' es'.size led:=by
 obtain ⟨h1,h2⟩:=SetOf_store (knd:=knd) ho hex hd hel hm hb hf
 refine ⟨h1,⟨_,es',ep+1,t',h1,?_,rfl,hel,hm,hb,hf,rfl,hs⟩⟩
 exact hex
theorem z0p {A:Around} {E:Value→Shared→Prop} {s:Shared} {g:Bool→Sem Unit} (hg:∀ (b:Bool) (s₁:Shared) (Q':Unit→Shared→Prop),Q' () s₁→wpAny (model prog w) A (g b) Q' E s₁)
  {a:Addr} {o:Obj} {es:Array (Int × Value)} {ep:Nat} {t:SetTable} (ho:s.heap.get? a=some o) (hex:o.ExactSet) (hd:o.data=.set es ep t) {es1:Array (Int × Value)} {t2:SetTable} {S':K→Bool} {led:Bool}
  (hel:ElemsOf knd es1.toList) (hm:∀ k,S' k=true↔∃ e,e∈es1.toList∧knd.is k e.snd=true) (hb:es1.size < scanBound) (hf:t2.fits es1.size=true) (hs:SI led t2) {was:Bool} {R:Option Bool→Shared→Prop}
  (h:∀ h',Heap.SameBut a s.heap h'→SetSI knd h' a S' es1.size led→R (some true) { s with heap:=h' }) :
  wpAny (model prog w) A (do
   storeSet a es1 t2
   if (!was && t2.tooFull)=true then do
    g (relayAll t2 es1 (SetTable.grown es1.size)).2.2
    storeSet a (relayAll t2 es1 (SetTable.grown es1.size)).1 (relayAll t2 es1 (SetTable.grown es1.size)).2.1
    pure (some true)
   else pure (some true)) R E s:=by
 have st1:=z20 (knd:=knd) ho hex hd hel hm hb hf hs
 refine wpAny_bind (wpAny_storeSet_of ho hd ?_ (fits_of_scanBound hb))
 by_cases hc:(!was && t2.tooFull)=true
 ·rw [if_pos hc]
  have hp:=relayAll_perm t2 es1 (SetTable.grown es1.size)
  have hfr:=relayAll_fits t2 es1 (SetTable.grown es1.size)
  have hsr:=hs.relayAll es1 (SetTable.grown es1.size)
  refine wpAny_bind (hg _ _ _ ?_)
  have hsz:(relayAll t2 es1 (SetTable.grown es1.size)).1.size=es1.size:=by
   have:=hp.length_eq
   simpa using this
  have hb2:(relayAll t2 es1 (SetTable.grown es1.size)).1.size < scanBound:=by rw [hsz];exact hb
  refine wpAny_bind (wpAny_storeSet_of st1.1 rfl ?_ (fits_of_scanBound hb2))
  have st2:=z20 (knd:=knd) (S':=S') (led:=led) st1.1 hex rfl (hel.perm hp) (fun k=>(hm k).trans ⟨fun ⟨e,he,q⟩=>⟨e,hp.mem_iff.mpr he,q⟩,fun ⟨e,he,q⟩=>⟨e,hp.mem_iff.mp he,q⟩⟩) hb2 hfr hsr
  rw [hsz] at st2
  exact wpAny_pure (h _ ((Heap.SameBut.update s.heap a _).trans (Heap.SameBut.update _ a _)) st2.2)
 ·rw [if_neg hc]
  exact wpAny_pure (h _ (Heap.SameBut.update s.heap a _) st1.2)
theorem add_SI {A:Around} {E:Value→Shared→Prop} {s:Shared} {a:Addr} {S:K→Bool} {n:Nat} {led:Bool} {k:K} {x:Value} {Q:Bool→Shared→Prop} (hk:knd.is k x=true) (hx:x.scannable=true) (hS:SetSI knd s.heap a S n led) (hn:n+1 < scanBound)
  (q:∀ h',Heap.SameBut a s.heap h'→SetSI knd h' a (fun k'=>S k' || decide (k'=k)) (if S k=true then n else n+1) led→Q (!S k) { s with heap:=h' }):wpAny (model prog w) A (setAddHashed a x (knd.hash k)) Q E s:=by
 obtain ⟨o,es,ep,t,ho,hex,hd,hel,hm,hb,hf,rfl,hsi⟩:=id hS.ex
 refine wpAny_holding ?_
 rw [setAddHashedIn.eq_def]
 refine wpAny_bind (m:=setState a) (wpAny_setState_of ho hd hf ?_)
 dsimp only
 rw [if_pos (byScan_of hx hb hel)]
 refine wpAny_bind (m:=setAddByScan _ _ _ _ _) ?_
 refine wpAny_bind (wpAny_rule ?_)
 refine wpAny_bind (wpAny_setScan_of hk ho hd hf hel ?_)
 have hfd:(List.findIdx? (fun e=>knd.is k e.snd) es.toList).isSome=S k:=by
  rw [List.findIdx?_isSome,Bool.eq_iff_iff,List.any_eq_true,hm k]
 cases hfi:List.findIdx? (fun e=>knd.is k e.snd) es.toList with
 | some j=>
  rw [hfi] at hfd
  have hSk:S k=true:=hfd.symm
  refine wpAny_pure (wpAny_pure ?_)
  have:=q s.heap (Heap.SameBut.refl _ _) ?_
  ·rw [hSk] at this
   exact this
  ·rw [if_pos hSk]
   have e:(fun k'=>S k' || decide (k'=k))=S:=by
    funext k'
    by_cases z:k'=k
    ·subst z
     simp [hSk]
    ·simp [z]
   rw [e]
   exact hS
 | none=>
  rw [hfi] at hfd
  have hSk:S k=false:=hfd.symm
  have hp:=layNew_perm t es (knd.hash k) x
  have hfl:=layNew_fits t es (knd.hash k) x
  have hsl:=hsi.layNew es (knd.hash k) x
  dsimp only
  generalize layNew t es (knd.hash k) x=L at hp hfl hsl ⊢
  obtain ⟨es1,t1,was,gave⟩:=L
  dsimp only at hp hfl hsl ⊢
  have hsz:es1.size=es.size+1:=by
   have:=hp.length_eq
   simpa using this
  have hgw:∀ {g:Bool→Sem Unit},(∀ (s₁:Shared) (Q':Unit→Shared→Prop),Q' () s₁→wpAny (model prog w) A (g true) Q' E s₁)→(∀ (s₁:Shared) (Q':Unit→Shared→Prop),Q' () s₁→wpAny (model prog w) A (g false) Q' E s₁)→∀ (b:Bool) (s₁:Shared) (Q':Unit→Shared→Prop),Q' () s₁→wpAny (model prog w) A (g b) Q' E s₁:=fun {g} h1 h2 b=>by
   cases b with
   | true=>exact h1
   | false=>exact h2
  have hp':es1.toList.Perm (es.toList++[(knd.hash k,x)]):=by
   rw [Array.toList_push] at hp
   exact hp
  have hel1:ElemsOf knd es1.toList:=(hel.push hk hx).perm hp'
  have hm1:=mem_push_iff hk hm hp'
  refine wpAny_bind (hgw (fun s₁ Q' h=>wpAny_rule h) (fun s₁ Q' h=>wpAny_pure h) gave s _ ?_)
  have fin:∀ h',Heap.SameBut a s.heap h'→SetSI knd h' a (fun k'=>S k' || decide (k'=k)) es1.size led→wpAny (model prog w) A (pure true) Q E { s with heap:=h' }:=fun h' hb' hs'=>by
   have:=q h' hb' (by rw [if_neg (by rw [hSk];exact Bool.false_ne_true),← hsz];exact hs')
   rw [hSk] at this
   exact wpAny_pure this
  have hb1:es1.size < scanBound:=by omega
  have hfb:∀ b:Bool,(if b=true then t1 else { mask:=t1.mask,place:=t1.place,dummies:=t1.dummies,finger:=t1.finger,led:=t1.led,moves:=t1.moves,plain:=false:SetTable }).fits es1.size=true:=fun b=>by
   cases b with
   | true=>exact hfl
   | false=>exact SetTable.fits_plain_off hfl
  by_cases hpl:t1.plain=true
  ·rw [if_pos hpl]
   refine wpAny_bind (wpAny_of_eq (hashByValue_scannable 8 hx) ?_)
   refine z0p (knd:=knd) (hgw ?_ ?_) ho hex hd hel1 hm1 hb1 (hfb _) (hsl.plain _) ?_
   ·exact fun s₁ Q' h=>wpAny_rule h
   ·exact fun s₁ Q' h=>wpAny_pure h
   ·exact fin
  ·rw [if_neg hpl]
   refine wpAny_bind (wpAny_pure ?_)
   refine z0p (knd:=knd) (hgw ?_ ?_) ho hex hd hel1 hm1 hb1 (hfb true) (hsl.plain true) ?_
   ·exact fun s₁ Q' h=>wpAny_rule h
   ·exact fun s₁ Q' h=>wpAny_pure h
   ·exact fin
end
end L2
namespace L2
open PySem PySem.Spec PyProof.Rows XL PySem.Calls PySem.W
theorem SetSI.congr {prog:Program} {w:World} {K:Type} [DecidableEq K] {knd:PySem.KeyKind prog w K} {h:Heap} {a:Addr} {S S':K→Bool} {n n':Nat} {led:Bool} (x:SetSI knd h a S n led) (hS:∀ k,S k=S' k) (hn:n=n'):SetSI knd h a S' n' led:=by
 have e:S=S':=funext hS
 rw [← e,← hn]
 exact x
theorem SetSI.moved {prog:Program} {w:World} {K:Type} [DecidableEq K] {knd:PySem.KeyKind prog w K} {h h':Heap} {a:Addr} {S:K→Bool} {n:Nat} {led:Bool} (x:SetSI knd h a S n led) (hk:∀ o,h.get? a=some o→h'.get? a=some o):SetSI knd h' a S n led:=by
 obtain ⟨o,es,ep,t,ho,rest⟩:=x.ex
 exact ⟨o,es,ep,t,hk o ho,rest⟩
theorem upd_loop {prog:Program} {w:World} {A:Around} {R:Result→Shared→Prop} {I:Addr} {fp wr:List Addr} {G:Array GenState→Array GenState→Prop} {n:Nat} {P:Nat→Value→Prop} {St:Nat→Shared→Prop}
  (W:WalksS prog w A.in1 I fp wr G n P St) (S:Addr) (hSf:¬ S∈fp) (val:Nat→Int) (hval:∀ (i:Nat) (v:Value),P i v→∃ t,v=Value.int (val i) t) (hb:n+1 < scanBound) {led:Bool} :
  ∀ (k i:Nat) (s:Shared),n - i=k→i≤n→St i s→SetSI (intKind prog w) s.heap S (fun k'=>(firstMet val i).any fun x=>x == k') (firstMet val i).length led→
   (∀ s',Moved (S::wr) G s s'→SetSI (intKind prog w) s'.heap S (fun k'=>(firstMet val n).any fun x=>x == k') (firstMet val n).length led→R (.ok (.ret .none)) s')→
   codeAny (model prog w) A (Code.builtin "set.update.loop" { pos:=[Value.ref S,Value.ref I] }) R s:=by
 have hSw:¬ S∈wr:=fun h=>hSf (W.sub S h)
 have hsub:∀ b,b∈wr→b∈S::wr:=fun b hb=>List.mem_cons_of_mem S hb
 intro k
 induction k with
 | zero=>
  intro i s hk hi hst hS hR
  have e:i=n:=by omega
  subst e
  refine codeAny_builtin F.entry_set_update_loop ?_
  rw [Around.under_plainId F.plain_set_update_loop]
  refine wpAny_bind (W.done s _ _ hst fun s' hm=>?_)
  exact wpAny_pure (hR s' (hm.mono hsub) (hS.moved fun o ho=>hm.heap S o hSw ho))
 | succ k ih=>
  intro i s hk hi hst hS hR
  have hlt:i < n:=by omega
  refine codeAny_builtin F.entry_set_update_loop ?_
  rw [Around.under_plainId F.plain_set_update_loop]
  refine wpAny_bind (W.item i s _ _ hlt hst fun v s' hP hst' hm=>?_)
  obtain ⟨t,rfl⟩:=hval i v hP
  have hS':=hS.moved fun o ho=>hm.heap S o hSw ho
  have hroom:(firstMet val i).length+1 < scanBound:=by
   have:=firstMet_length_le val i
   omega
  refine wpAny_bind (wpAny_holding ?_)
  refine wpAny_holding ?_
  refine wpAny_bind ((intKind prog w).pyHash (intKind_is prog w (val i) t) ?_)
  refine add_SI (knd:=intKind prog w) (intKind_is prog w (val i) t) rfl hS' hroom fun h' hsb hS2=>?_
  have hSi:SetSI (intKind prog w) h' S (fun k'=>(firstMet val (i+1)).any fun x=>x == k') (firstMet val (i+1)).length led:=hS2.congr (fun k'=>by rw [firstMet_succ,step_any]) (by rw [firstMet_succ,step_length])
  refine wpAny_pure ⟨plainId_quiet F.plain_set_update_loop _,?_⟩
  refine ih (i+1) _ (by omega) hlt (W.frame (i+1) s' h' _ hst' (Nat.le_succ _) fun b hb o e=>?_) hSi fun s'' hm'' hS''=>?_
  ·rw [hsb.2 b fun h=>hSf (h ▸ hb)]
   exact e
  ·refine hR s'' (Moved.trans W.gtrans (Moved.then_heap (hm.mono hsub) (Nat.le_succ _) fun b o hb e=>?_) hm'') hS''
   rw [hsb.2 b fun h=>hb (h ▸ List.mem_cons_self)]
   exact e
end L2
namespace L2
open PySem PySem.Spec PyProof.Rows XL PySem.Calls PySem.W
abbrev q2t (w:World):Bool:=!w.params.followText "set-order"
theorem new_led {prog:Program} {w:World} {A:Around} {E:Value→Shared→Prop} {s:Shared} {Q:Value→Shared→Prop}
  (h:Q (.ref s.heap.objs.size) { s with heap:=s.heap.push { cls:=.type "set",data:=.set #[] 0 (SetTable.fresh 0 0 (q2t w)) } }):wpAny (model prog w) A (newSet (.type "set")) Q E s:=by
 refine wpAny_bind (m:=setsByText) (wpAny_bind (m:=ask) (wpAny_askSetting (wpAny_pure ?_)))
 show wpAny _ _ (newObj (.type "set") (.set #[] 0 (SetTable.fresh 0 0 (q2t w)))) Q E s
 show wpAny _ _ (if (#[]:Array (Int × Value)).size > sizeLine then ((unsupported "set:memory" : Sem Unit) >>= fun _=>newObjAsIs (.type "set") (.set #[] 0 (SetTable.fresh 0 0 (q2t w)))) else newObjAsIs (.type "set") (.set #[] 0 (SetTable.fresh 0 0 (q2t w)))) Q E s
 rw [if_neg (by simp)]
 exact wpAny_bind (wpAny_alloc (wpAny_pure h))
theorem code_new {prog:Program} {w:World} {A:Around} {E:Value→Shared→Prop} {s:Shared} (a:Value) {Q₁:Value→Shared→Prop}
  (h:Q₁ (.ref s.heap.objs.size) { s with heap:=s.heap.push { cls:=.type "set",data:=.set #[] 0 (SetTable.fresh 0 0 (q2t w)) } }) :
  codeAny (model prog w) A (Code.call (.builtin "set.__new__") { pos:=[.type "set",a] }) (wants Q₁ E) s:=by
 refine codeAny_of_tree ?_
 refine wpAny_bind (wpAny_of_eq (F.newCall_set_1 a) (wpAny_pure ⟨plainId_quiet F.plain_set_new _,codeAny_builtin F.entry_set_new ?_⟩))
 rw [Around.under_plainId F.plain_set_new]
 refine wpAny_bind (m:=Builtin.Frozenset.newClass "set" _) ?_
 refine wpAny_bind (m:=isType _) (wpAny_of_eq (a:=true) rfl ?_)
 refine wpAny_ite_false (by decide) (wpAny_bind (wpAny_of_eq sub_set_self (wpAny_ite_false (by decide) (wpAny_pure ?_))))
 refine wpAny_bind (m:=newSet _) (new_led ?_)
 exact wpAny_pure h
end L2
namespace L2
open PySem PySem.Spec PyProof.Rows XL PySem.Calls PySem.W
theorem z05 {prog:Program} {w:World} {A:Around} {E:Value→Shared→Prop} {s:Shared} {l:Addr} {items:Array Value} {ns:List Int} {Q:Value→Shared→Prop} (hh:A.handled=none) (hl:s.heap.IsList l items) (hi:IntsAre items.toList ns) (hb:items.size+1 < scanBound)
  (h:∀ (h':Heap) (tk:Nat),SetSI (intKind prog w) h' s.heap.objs.size (fun k'=>(firstMet (fun i=>ns.getD i 0) items.size).any fun x=>x == k') (firstMet (fun i=>ns.getD i 0) items.size).length (q2t w)→
   (∀ (b:Nat) (o:Obj),b < s.heap.objs.size→s.heap.get? b=some o→h'.get? b=some o)→Q (.ref s.heap.objs.size) { s with heap:=h',toks:=tk }):wpAny (model prog w) A (call (.type "set") [.ref l]) Q E s:=by
 obtain ⟨c,tl,hmro⟩:=F.called_set.mro
 have hmade:=F.called_set.made
 have hsub:=F.called_set.sub
 have hct:=F.typeCall_set_1 (Value.ref l)
 refine wpAny_call (codeAny_of_tree ?_)
 refine wpAny_pure ⟨Code.quiet_builtin _ (by decide +kernel),codeAny_builtin F.entry_type_call ?_⟩
 rw [Around.under_plain (weight_type_call_type "set" [Value.ref l] []) rfl]
 unfold Builtin.«type.__call__»
 dsimp only
 refine wpAny_ite_false ?h1 ?_
 case h1=>rfl
 refine wpAny_ite_false ?h2 ?_
 case h2=>decide +kernel
 refine wpAny_bind (wpAny_of_eq hct ?_)
 refine wpAny_bind (wpAny_of_eq hmro ?_)
 refine wpAny_ite_false rfl ?_
 refine wpAny_bind (wpAny_of_eq hmade ?_)
 refine wpAny_bind (wpAny_pure ?_)
 refine wpAny_bind (wpAny_holding (wpAny_call ?_))
 refine codeAny_mono (code_new (E:=fun _ _=>False) (Q₁:=fun v s1=>v=.ref s.heap.objs.size∧s1={ s with heap:=s.heap.push { cls:=.type "set",data:=.set #[] 0 (SetTable.fresh 0 0 (q2t w)) } }) (.ref l) ⟨rfl,rfl⟩) fun r s₁ hr=>?_
 match r,hr with
 | .ok (.ret v),hr=>
  obtain ⟨rfl,rfl⟩:=hr
  have hS:(s.heap.push { cls:=Value.type "set",data:=.set #[] 0 (SetTable.fresh 0 0 (q2t w)) }).get? s.heap.objs.size=some { cls:=Value.type "set",data:=.set #[] 0 (SetTable.fresh 0 0 (q2t w)) }:=Heap.get?_push_size s.heap rfl
  have hT:Shared.TypeIs { s with heap:=s.heap.push { cls:=Value.type "set",data:=.set #[] 0 (SetTable.fresh 0 0 (q2t w)) } } (.ref s.heap.objs.size) "set" := ⟨_,hS,rfl⟩
  have hli:=F.called_set.init.lookup
  have hbi:=F.called_set.init.bind (Value.ref s.heap.objs.size)
  refine wpAny_bind (wpAny_isInstance hT hsub ?_)
  refine wpAny_ite_false ?h3 ?_
  case h3=>rfl
  refine wpAny_bind (wpAny_holding ?_)
  refine wpAny_bind (wpAny_specialOf hT hli ?_)
  refine wpAny_holding (wpAny_bind (wpAny_of_eq hbi ?_))
  refine wpAny_bind (wpAny_call ?_)
  refine codeAny_call_builtin F.called_set.init.plain F.entry_set_init (check_set_init_1 hT ?_)
  have hl1:(s.heap.push { cls:=Value.type "set",data:=.set #[] 0 (SetTable.fresh 0 0 (q2t w)) }).IsList l items:=hl.push _
  have hTl:Shared.TypeIs { s with heap:=s.heap.push { cls:=Value.type "set",data:=.set #[] 0 (SetTable.fresh 0 0 (q2t w)) } } (.ref l) "list" := by
   obtain ⟨o,ho,hc,_⟩:=hl1
   exact ⟨o,ho,hc⟩
  unfold Builtin.«set.__init__»
  dsimp only
  refine wpAny_bind (wpAny_of_eq (t:=noKeywords _ _) (a:=()) rfl ?_)
  refine wpAny_bind (m:=typeNameOfCut _ _) (wpAny_bind (m:=shownTypeOf _) (wpAny_bind (wpAny_typeOf hT ?_)))
  refine wpAny_ite_false ?h4 (wpAny_pure (wpAny_pure ?_))
  case h4=>rfl
  refine wpAny_bind (wpAny_of_eq (t:=checkCount _ _ _ _) (a:=()) rfl ?_)
  refine wpAny_bind (wpAny_of_eq (t:=Builtin.Frozenset.addrOf _) (a:=s.heap.objs.size) rfl ?_)
  refine wpAny_bind (m:=setUsed _) (wpAny_bind (m:=setState _) ?_)
  refine wpAny_setState_of hS rfl rfl (wpAny_pure ?_)
  refine wpAny_ite_false ?h5 ?_
  case h5=>rfl
  refine wpAny_bind (m:=Builtin.Frozenset.updateFrom _ _ _) ?_
  refine wpAny_bind (m:=Builtin.Frozenset.isAnySet _) ?_
  refine wpAny_bind (wpAny_isInstance hTl F.sub_list_set ?_)
  refine wpAny_isInstance hTl F.sub_list_frozenset ?_
  refine wpAny_ite_false ?h6 ?_
  case h6=>rfl
  refine wpAny_bind (wpAny_typeOf hTl ?_)
  refine wpAny_ite_false ?h7 ?_
  case h7=>rfl
  refine wpAny_bind (wpAny_pyIter_list hl1 ?_)
  refine wpAny_bind (wpAny_runValue ?_)
  have hlt:l < s.heap.objs.size:=by obtain ⟨_,e,_⟩:=hl;exact Heap.lt_size e
  obtain ⟨hp,ehp⟩:∃ hp,s.heap.push { cls:=Value.type "set",data:=Data.set #[] 0 (SetTable.fresh 0 0 (q2t w)) }=hp:=⟨_,rfl⟩
  have hsz1:hp.objs.size=s.heap.objs.size+1:=by rw [← ehp];exact size_push' _ _
  simp only [ehp] at hS hT hl1 hTl ⊢
  have hS2:(hp.push { cls:=Value.type "list_iterator",data:=Data.fields #[Value.ref l,Value.int 0 0] }).get? s.heap.objs.size=some { cls:=Value.type "set",data:=Data.set #[] 0 (SetTable.fresh 0 0 (q2t w)) }:=Heap.get?_push_of_some _ hS
  refine upd_loop (Walks.toS (Walks.list (by exact hh) hp.objs.size l (by rw [hsz1];exact Nat.ne_of_lt (Nat.lt_succ_of_lt hlt)) items)) s.heap.objs.size ?hf (fun i=>ns.getD i 0) ?hv hb (led:=q2t w) items.size 0 _ (Nat.sub_zero _) (Nat.zero_le _) ⟨⟨_,Heap.get?_push_size _ rfl,rfl,rfl⟩,hl1.push _⟩ ?hs0 fun s' hm hS'=>?_
  case hf=>
   intro z
   rcases List.mem_cons.mp z with z | z
   ·rw [hsz1] at z
    exact Nat.ne_of_lt (Nat.lt_succ_self _) z
   ·rw [List.mem_singleton] at z
    exact Nat.ne_of_gt hlt z
  case hv=>
   intro i v hv
   exact z1m hi i v (by simpa using hv)
  case hs0=>
   refine ⟨_,#[],0,_,hS2,?_,rfl,fun e he=>by simp at he,fun k=>?_,by decide,rfl,rfl,SI.fresh _⟩
   ·exact ⟨rfl,rfl,rfl⟩
   ·simp [firstMet]
  refine wpAny_pure ?_
  refine wpAny_pure ?_
  refine wpAny_pure ?_
  dsimp only
  refine wpAny_ite_false ?h8 (wpAny_pure ?_)
  case h8=>rfl
  obtain ⟨hh',gg,dd,tk,oo⟩:=s'
  have e1:=hm.gens
  have e2:=hm.drawn
  have e3:=hm.os
  dsimp only at e1 e2 e3
  subst e1 e2 e3
  refine h hh' tk hS' fun b o hb e=>?_
  refine hm.heap b o (fun z=>?_) (Heap.get?_push_of_some _ (by rw [← ehp];exact Heap.get?_push_of_some _ e))
  rcases List.mem_cons.mp z with z | z
  ·exact Nat.ne_of_lt hb z
  ·rw [List.mem_singleton,hsz1] at z
   exact Nat.ne_of_lt (Nat.lt_succ_of_lt hb) z
 | .error e,hr=>exact hr.elim
end L2
namespace L2
open PySem PySem.Spec PyProof.Rows XL PySem.Calls PySem.W
theorem slot_seti_next:Slot "set_iterator" "__next__" "set_iterator.__next__" :=
 .of (owner := "set_iterator") (n := "__next__") (by rw [typeLookup_type,builtinLookup_eq_fast];kernel_rfl) (by decide +kernel) (by decide +kernel) (by decide +kernel)
  (by first | exact .inl (by decide +kernel) | exact .inr (by decide +kernel)) (by rw [isSubtype_type];kernel_rfl)
theorem q1r:entryFor table "set_iterator.__next__" = some Builtin.«set_iterator.__next__»:=entryFor_of_tree (by kernel_rfl)
theorem q72:Manifest.owners.lookup (String.ofList ['r','o','t','a','r','e','t','i','_','t','e','s'].reverse)=some Manifest.sig_set_iterator:=by kernel_rfl
theorem q1y (a:Value):argsOk "set_iterator.__next__" ⟨[a],[]⟩:=by
 unfold argsOk;rw [signature?_of (id := "set_iterator.__next__") (n:=['_','_','t','x','e','n','_','_']) (o:=['r','o','t','a','r','e','t','i','_','t','e','s']) (by kernel_rfl) q72];kernel_rfl
theorem q3p:Slot "set_iterator" "__iter__" "set_iterator.__iter__" :=
 .of (owner := "set_iterator") (n := "__iter__") (by rw [typeLookup_type,builtinLookup_eq_fast];kernel_rfl) (by decide +kernel) (by decide +kernel) (by decide +kernel)
  (by first | exact .inl (by decide +kernel) | exact .inr (by decide +kernel)) (by rw [isSubtype_type];kernel_rfl)
theorem q5k:entryFor table "set_iterator.__iter__" = some Builtin.«dict_keyiterator.__iter__»:=
 entryFor_alias (id' := "dict_keyiterator.__iter__") (by kernel_rfl) rfl (by decide +kernel) (by kernel_rfl)
theorem q6c (a:Value):argsOk "set_iterator.__iter__" ⟨[a],[]⟩:=by
 unfold argsOk;rw [signature?_of (id := "set_iterator.__iter__") (n:=['_','_','r','e','t','i','_','_']) (o:=['r','o','t','a','r','e','t','i','_','t','e','s']) (by kernel_rfl) q72];kernel_rfl
theorem q6d:entryFor table "set.__iter__" = some Builtin.«frozenset.__iter__»:=
 entryFor_alias (id' := "frozenset.__iter__") (by kernel_rfl) rfl (by decide +kernel) (by kernel_rfl)
structure SetIter (h:Heap) (it a:Addr) (first:Value) (i n ep:Nat):Prop where
 ex:∃ o,h.get? it=some o∧o.cls=.type "set_iterator" ∧ o.data=.fields #[first,.int i 0,.ref a,.int n 0,.int ep 0]
structure SetAt (h:Heap) (a:Addr) (es:Array (Int × Value)) (ep:Nat) (t:SetTable):Prop where
 ex:∃ o,h.get? a=some o∧o.ExactSet∧o.data=.set es ep t
 fits:t.fits es.size=true
theorem SetIter.typeIs {s:Shared} {it a first i n ep} (x:SetIter s.heap it a first i n ep):s.TypeIs (.ref it) "set_iterator" :=
 let ⟨o,ho,hc,_⟩:=x.ex;⟨o,ho,hc⟩
theorem SetIter.at {h h':Heap} {it a first i n ep} (x:SetIter h it a first i n ep) (e:∀ o,h.get? it=some o→h'.get? it=some o):SetIter h' it a first i n ep:=
 let ⟨o,ho,r⟩:=x.ex;⟨o,e _ ho,r⟩
theorem SetAt.at {h h':Heap} {a es ep t} (x:SetAt h a es ep t) (e:∀ o,h.get? a=some o→h'.get? a=some o):SetAt h' a es ep t:=
 let ⟨o,ho,r⟩:=x.ex;⟨⟨o,e _ ho,r⟩,x.fits⟩
end L2
namespace L2
open PySem PySem.Spec PyProof.Rows XL PySem.Calls PySem.W
section
variable {prog:Program} {w:World} {A:Around} {E:Value→Shared→Prop} {s:Shared}
theorem q5e {it a:Addr} {first:Value} {i n ep:Nat} {Q:Value→Shared→Prop} (hit:SetIter s.heap it a first i n ep) (h:Q (.ref it) s):wpAny (model prog w) A (pyIter (.ref it)) Q E s:=by
 refine wpAny_pyIter_slot hit.typeIs q3p (wpAny_call_entry q3p hit.typeIs q5k ?_ (q6c _))
 show wpAny _ _ (ret (.ref it)) _ _ s
 exact wpAny_pure ⟨_,rfl, "set_iterator",_,hit.typeIs,slot_seti_next.lookup,h⟩
theorem q80 {it a:Addr} {slot i ep nx:Nat} {es:Array (Int × Value)} {t:SetTable} {x:Value} {Q:Option Value→Shared→Prop} (hit:SetIter s.heap it a (.int slot 0) i es.size ep) (hs:SetAt s.heap a es ep t)
  (hn:∀ (A':Around) (E':Value→Shared→Prop) (Q':Option (Value × Nat)→Shared→Prop),Q' (some (x,nx)) s→wpAny (model prog w) A' (setNext a slot i ep) Q' E' s)
  (hQ:∀ h',SetIter h' it a (.int nx 0) (i+1) es.size ep→Heap.SameBut it s.heap h'→Q (some x) { s with heap:=h' }):wpAny (model prog w) A (pyNext (.ref it)) Q E s:=by
 obtain ⟨o,ho,hc,hd⟩:=id hit.ex
 obtain ⟨os,hos,hcs,hds⟩:=id hs.ex
 unfold pyNext
 refine wpAny_bind (wpAny_attempt (wpAny_callSpecial?_slot (name:=Str.ofString "__next__") hit.typeIs slot_seti_next
  (wpAny_call_entry slot_seti_next hit.typeIs q1r ?_ (q1y _))))
 refine wpAny_bind (wpAny_pure ?_)
 refine wpAny_bind (wpAny_fieldsOf ho hd ?_)
 dsimp only
 refine wpAny_bind (m:=setEntries a) (wpAny_bind (m:=setState a) (wpAny_setState_of hos hds hs.fits (wpAny_pure ?_)))
 rw [if_neg (by simp)]
 refine wpAny_bind (m:=setNext _ _ _ _) ?_
 rw [Int.toNat_natCast,Int.toNat_natCast,Int.toNat_natCast]
 refine hn _ _ _ ?_
 dsimp only
 refine wpAny_bind (wpAny_setField ho hd (by simp) ?_)
 have h1:=Heap.get?_update_self (Obj.mapFields (·.setIfInBounds 0 (rawInt (nx:Int)))) ho (Obj.isFreed_of_fields (Obj.data_mapFields hd _))
 refine wpAny_bind (wpAny_setField h1 (Obj.data_mapFields hd _) (by simp) ?_)
 refine wpAny_pure ⟨_,rfl,wpAny_pure (hQ _ ⟨_,Heap.get?_update_self _ h1 (Obj.isFreed_of_fields (Obj.data_mapFields (Obj.data_mapFields hd _) _)),(Obj.cls_mapFields ..).trans ((Obj.cls_mapFields ..).trans hc),?_⟩ ((Heap.SameBut.update ..).trans (Heap.SameBut.update ..)))⟩
 rw [Obj.data_mapFields (Obj.data_mapFields hd _)]
 simp [rawInt]
theorem q8r {it:Addr} {h1:Heap} {Q:Option Value→Shared→Prop} (hh:A.handled=none) (hb:Heap.ExtBut it s.heap h1) (hQ:∀ h',Heap.ExtBut it s.heap h'→Q none { s with heap:=h' }) {P:Fin→Shared→Prop} :
  wpAny (model prog w) A.in1 (do
   let __do_lift ← newExc (Value.type "StopIteration") []
   raiseNew __do_lift:Sem Fin) P (fun e s'=>wpAny (model prog w) A (do
     let __do_lift ← isInstance e (Value.type "StopIteration")
     if __do_lift=true then pure none else throw e) Q E s') { s with heap:=h1 }:=by
 refine wpAny_bind ?_
 simp only [newExc,newTuple]
 refine wpAny_bind (wpAny_newObj_type ?_ (by size_fits))
 refine wpAny_bind (m:=firstArgMember _ _) (wpAny_of_eq (a:=Value.none) (by first | rfl | (simp only [firstArgMember];rfl)) ?_)
 refine wpAny_newObj_type ?_ (by size_fits)
 simp only [raiseNew]
 refine wpAny_bind (wpAny_handled ?_)
 rw [show A.in1.handled=none from hh]
 refine wpAny_bind (wpAny_pure (wpAny_throw ?_))
 refine wpAny_bind (wpAny_isInstance (T := "StopIteration") (b:=true) ⟨_,Heap.get?_push_size _ rfl,rfl⟩ isSubtype_stop ?_)
 exact wpAny_pure (hQ _ ((hb.push _).push _))
theorem q8j {it a:Addr} {slot i ep:Nat} {es:Array (Int × Value)} {t:SetTable} {Q:Option Value→Shared→Prop} (hh:A.handled=none) (hit:SetIter s.heap it a (.int slot 0) i es.size ep) (hs:SetAt s.heap a es ep t)
  (hn:∀ (A':Around) (E':Value→Shared→Prop) (Q':Option (Value × Nat)→Shared→Prop),Q' none s→wpAny (model prog w) A' (setNext a slot i ep) Q' E' s)
  (hQ:∀ h',Heap.ExtBut it s.heap h'→Q none { s with heap:=h' }):wpAny (model prog w) A (pyNext (.ref it)) Q E s:=by
 obtain ⟨o,ho,hc,hd⟩:=id hit.ex
 obtain ⟨os,hos,hcs,hds⟩:=id hs.ex
 unfold pyNext
 refine wpAny_bind (wpAny_attempt (wpAny_callSpecial?_slot (name:=Str.ofString "__next__") hit.typeIs slot_seti_next
  (wpAny_call_entry slot_seti_next hit.typeIs q1r ?_ (q1y _))))
 refine wpAny_bind (wpAny_pure ?_)
 refine wpAny_bind (wpAny_fieldsOf ho hd ?_)
 dsimp only
 refine wpAny_bind (m:=setEntries a) (wpAny_bind (m:=setState a) (wpAny_setState_of hos hds hs.fits (wpAny_pure ?_)))
 rw [if_neg (by simp)]
 refine wpAny_bind (m:=setNext _ _ _ _) ?_
 rw [Int.toNat_natCast,Int.toNat_natCast,Int.toNat_natCast]
 refine hn _ _ _ ?_
 dsimp only
 refine wpAny_bind (wpAny_setField ho hd (by simp) ?_)
 exact q8r hh (Heap.SameBut.update ..).extBut hQ
theorem nextD_some {it a tp:Addr} {i ep pl:Nat} {es:Array (Int × Value)} {t:SetTable} {ps:Array Value} {e:Int × Value} {Q:Option Value→Shared→Prop} (hit:SetIter s.heap it a (.ref tp) i es.size ep) (hs:SetAt s.heap a es ep t)
  (hp:∀ (A':Around) (E':Value→Shared→Prop) (Q':Option (Array Value)→Shared→Prop),Q' (some ps) s→wpAny (model prog w) A' (seqItems? (.ref tp)) Q' E' s) (hi:ps[i]?=some (.int pl 0)) (he:es[pl]?=some e)
  (hQ:∀ h',SetIter h' it a (.ref tp) (i+1) es.size ep→Heap.SameBut it s.heap h'→Q (some e.2) { s with heap:=h' }):wpAny (model prog w) A (pyNext (.ref it)) Q E s:=by
 obtain ⟨o,ho,hc,hd⟩:=id hit.ex
 obtain ⟨os,hos,hcs,hds⟩:=id hs.ex
 unfold pyNext
 refine wpAny_bind (wpAny_attempt (wpAny_callSpecial?_slot (name:=Str.ofString "__next__") hit.typeIs slot_seti_next
  (wpAny_call_entry slot_seti_next hit.typeIs q1r ?_ (q1y _))))
 refine wpAny_bind (wpAny_pure ?_)
 refine wpAny_bind (wpAny_fieldsOf ho hd ?_)
 dsimp only
 refine wpAny_bind (m:=setEntries a) (wpAny_bind (m:=setState a) (wpAny_setState_of hos hds hs.fits (wpAny_pure ?_)))
 rw [if_neg (by simp)]
 refine wpAny_bind (m:=seqItems? _) (hp _ _ _ ?_)
 dsimp only
 rw [Int.toNat_natCast,hi]
 dsimp only
 refine wpAny_bind (m:=setNextDrawn _ _ _) (wpAny_bind (m:=setState a) (wpAny_setState_of hos hds hs.fits ?_))
 dsimp only
 rw [Int.toNat_natCast,Int.toNat_natCast,if_neg (by simp),he]
 dsimp only
 refine wpAny_pure ?_
 refine wpAny_bind (wpAny_setField ho hd (by simp) ?_)
 refine wpAny_pure ⟨_,rfl,wpAny_pure (hQ _ ⟨_,Heap.get?_update_self _ ho (Obj.isFreed_of_fields (Obj.data_mapFields hd _)),(Obj.cls_mapFields ..).trans hc,?_⟩ (Heap.SameBut.update ..))⟩
 rw [Obj.data_mapFields hd]
 simp [rawInt]
theorem nextD_none {it a tp:Addr} {i ep:Nat} {es:Array (Int × Value)} {t:SetTable} {ps:Array Value} {Q:Option Value→Shared→Prop} (hh:A.handled=none) (hit:SetIter s.heap it a (.ref tp) i es.size ep) (hs:SetAt s.heap a es ep t)
  (hp:∀ (A':Around) (E':Value→Shared→Prop) (Q':Option (Array Value)→Shared→Prop),Q' (some ps) s→wpAny (model prog w) A' (seqItems? (.ref tp)) Q' E' s) (hi:ps[i]?=none)
  (hQ:∀ h',Heap.ExtBut it s.heap h'→Q none { s with heap:=h' }):wpAny (model prog w) A (pyNext (.ref it)) Q E s:=by
 obtain ⟨o,ho,hc,hd⟩:=id hit.ex
 obtain ⟨os,hos,hcs,hds⟩:=id hs.ex
 unfold pyNext
 refine wpAny_bind (wpAny_attempt (wpAny_callSpecial?_slot (name:=Str.ofString "__next__") hit.typeIs slot_seti_next
  (wpAny_call_entry slot_seti_next hit.typeIs q1r ?_ (q1y _))))
 refine wpAny_bind (wpAny_pure ?_)
 refine wpAny_bind (wpAny_fieldsOf ho hd ?_)
 dsimp only
 refine wpAny_bind (m:=setEntries a) (wpAny_bind (m:=setState a) (wpAny_setState_of hos hds hs.fits (wpAny_pure ?_)))
 rw [if_neg (by simp)]
 refine wpAny_bind (m:=seqItems? _) (hp _ _ _ ?_)
 dsimp only
 rw [Int.toNat_natCast,hi]
 dsimp only
 refine wpAny_bind (wpAny_setField ho hd (by simp) ?_)
 have h1:=Heap.get?_update_self (Obj.mapFields (·.setIfInBounds 0 (rawInt (0:Int)))) ho (Obj.isFreed_of_fields (Obj.data_mapFields hd _))
 refine wpAny_bind (wpAny_setField h1 (Obj.data_mapFields hd _) (by simp) ?_)
 exact q8r hh ((Heap.SameBut.update ..).trans (Heap.SameBut.update ..)).extBut hQ
end
end L2
namespace L2
open PySem PySem.Spec PyProof.Rows XL PySem.Calls PySem.W
theorem q4v {α:Type}:∀ {l:List α} {i:Nat} (h:i < l.length),(l[i]::l.eraseIdx i).Perm l
 | x::t,0,h=>.refl _
 | x::t,i+1,h=>(List.Perm.swap _ _ _).trans (.cons _ (q4v (l:=t) (Nat.lt_of_succ_lt_succ h)))
theorem pick_go {α:Type} (next:Nat→Nat):∀ (fuel k:Nat) (left:List α) (out:Array α),left.length=fuel→(pickOrder.go next fuel k left out).toList.Perm (out.toList++left)
 | 0,k,left,out,h=>by
  have:left=[]:=List.eq_nil_of_length_eq_zero h
  subst this
  show out.toList.Perm _
  rw [List.append_nil]
 | fuel+1,k,left,out,h=>by
  have hlt:next k % left.length < left.length:=Nat.mod_lt _ (by omega)
  have e:pickOrder.go next (fuel+1) k left out=pickOrder.go next fuel (k+1) (left.eraseIdx (next k % left.length)) (out.push left[next k % left.length]):=by
   show (match left[next k % left.length]? with | some x=>_ | none=>_)=_
   rw [List.getElem?_eq_getElem hlt]
  rw [e]
  refine (pick_go next fuel (k+1) _ _ (by rw [List.length_eraseIdx_of_lt hlt];omega)).trans ?_
  rw [Array.toList_push,List.append_assoc]
  exact List.Perm.append_left _ (q4v hlt)
theorem q47 {α:Type} (next:Nat→Nat) (xs:Array α):(pickOrder next xs).toList.Perm xs.toList:=by
 have:=pick_go next xs.size 0 xs.toList #[] (Array.length_toList)
 simpa [pickOrder] using this
section
variable {M:Model} {A:Around} {E:Value→Shared→Prop}
theorem choose_any {s:Shared} {src:Source} {n:Nat} {Q:Nat→Shared→Prop} (hn:n≠0) (h:∀ i dr,i < n→Q i { s with drawn:=dr }):wpAny M A (choose src n) Q E s:=fun Γ p _=>by
 unfold choose
 rw [Sem.wp_choose]
 exact ⟨hn,h _ _ (Nat.mod_lt _ (Nat.pos_of_ne_zero hn))⟩
theorem q6p {α:Type}:∀ (n:Nat) (xs:List α) (s:Shared) (Q:List α→Shared→Prop),xs.length=n→(∀ ys dr,ys.Perm xs→Q ys { s with drawn:=dr })→wpAny M A (drawOrder n xs) Q E s
 | 0,xs,s,Q,h,q=>by
  have:xs=[]:=List.eq_nil_of_length_eq_zero h
  subst this
  exact wpAny_pure (q [] s.drawn .nil)
 | n+1,[],s,Q,h,q=>by cases h
 | n+1,x::t,s,Q,h,q=>by
  show wpAny M A (choose .order (x::t).length >>= fun i=>match (x::t)[i]? with
   | some y=>(do return y::(← drawOrder n ((x::t).eraseIdx i)))
   | none=>unsupported "internal:drawOrder") Q E s
  refine wpAny_bind (choose_any (by rw [h];omega) fun i dr hi=>?_)
  rw [List.getElem?_eq_getElem hi]
  dsimp only
  refine wpAny_bind (q6p n _ _ _ (by rw [List.length_eraseIdx_of_lt hi];omega) fun ys dr' hp=>?_)
  exact wpAny_pure (q _ dr' ((List.Perm.cons _ hp).trans (q4v hi)))
end
def q2o (p:Array Nat) (i:Nat):Nat:=if i=0 then 0 else p.getD (i - 1) 0+1
theorem below_slot {p:Array Nat} (hup:p.toList.Pairwise (· < ·)) {i:Nat} (hi:i≤p.size):SetTable.below p (q2o p i)=i:=by
 obtain ⟨b0,b1,b2⟩:=z1g (j:=q2o p i) hup
 cases i with
 | zero=>
  rcases Nat.eq_zero_or_pos (SetTable.below p (q2o p 0)) with z | z
  ·exact z
  ·have:=b1 0 (by omega) z
   exact absurd this (Nat.not_lt_zero _)
 | succ k=>
  have hk:k < p.size:=hi
  have e:q2o p (k+1)=p[k]+1:=by
   unfold q2o
   rw [if_neg (by omega),Nat.add_sub_cancel,q76 hk]
  have h1:k+1≤SetTable.below p (q2o p (k+1)):=by
   rcases Nat.lt_or_ge k (SetTable.below p (q2o p (k+1))) with z | z
   ·exact z
   ·have:=b2 k hk z
    omega
  rcases Nat.lt_or_eq_of_le h1 with z | z
  ·have h2:=b1 (k+1) (by omega) z
   have h3:=up_lt hup (show k < k+1 by omega) (show k+1 < p.size by omega)
   omega
  ·exact z.symm
section
variable {prog:Program} {w:World}
theorem q93 {A:Around} {E:Value→Shared→Prop} {s:Shared} {a:Addr} {es:Array (Int × Value)} {ep slot i:Nat} {t:SetTable} (hw:w.params.followText "set-order" = true) (hs:SetAt s.heap a es ep t) {Q:Option (Value × Nat)→Shared→Prop}
  (h:Q (((pickOrder (w.params.setOrder a ep) es)[i]?).map fun e=>(e.2,slot)) s):wpAny (model prog w) A (setNext a slot i ep) Q E s:=by
 obtain ⟨os,hos,hcs,hds⟩:=id hs.ex
 refine wpAny_bind (m:=setState a) (wpAny_setState_of hos hds hs.fits ?_)
 dsimp only
 refine wpAny_bind (m:=setsByText) (wpAny_bind (m:=ask) (wpAny_askSetting (wpAny_pure ?_)))
 dsimp only
 refine wpAny_ite_true (decide_eq_true hw) ?_
 refine wpAny_ite_false (by simp) ?_
 refine wpAny_bind (m:=setWalk a) (wpAny_bind (m:=setState a) (wpAny_setState_of hos hds hs.fits ?_))
 dsimp only
 refine wpAny_bind (m:=setsByText) (wpAny_bind (m:=ask) (wpAny_askSetting (wpAny_pure ?_)))
 dsimp only
 refine wpAny_ite_true (decide_eq_true hw) ?_
 refine wpAny_bind (m:=ask) (wpAny_askSetting (wpAny_pure ?_))
 exact wpAny_pure h
theorem z1q {A:Around} {E:Value→Shared→Prop} {s:Shared} {a:Addr} {es:Array (Int × Value)} {ep i:Nat} {t:SetTable} (hw:w.params.followText "set-order" = false) (hl:t.led=true) (hp:(!t.plain && decide (es.size > 1))=false) (hs:SetAt s.heap a es ep t)
  (hup:t.place.toList.Pairwise (· < ·)) (hz:t.place.size=es.size) (hi:i≤es.size) {Q:Option (Value × Nat)→Shared→Prop}
  (h:Q ((es[i]?).map fun e=>(e.2,q2o t.place (i+1))) s):wpAny (model prog w) A (setNext a (q2o t.place i) i ep) Q E s:=by
 obtain ⟨os,hos,hcs,hds⟩:=id hs.ex
 refine wpAny_bind (m:=setState a) (wpAny_setState_of hos hds hs.fits ?_)
 dsimp only
 refine wpAny_bind (m:=setsByText) (wpAny_bind (m:=ask) (wpAny_askSetting (wpAny_pure ?_)))
 dsimp only
 refine wpAny_ite_false (decide_eq_false (by show ¬ (w.params.followText "set-order" = true);rw [hw];exact Bool.false_ne_true)) ?_
 refine wpAny_ite_false (decide_eq_false (by show ¬ ((!t.plain && decide (es.size > 1))=true);rw [hp];exact Bool.false_ne_true)) ?_
 refine wpAny_bind (Q:=fun _ s'=>_) ?_
 show wpAny _ _ (if (!t.led && !es.isEmpty)=true then unsupported _ else pure ()) _ _ s
 rw [hl]
 refine wpAny_ite_false (by simp) (wpAny_pure ?_)
 refine wpAny_pure ?_
 rw [below_slot hup (by omega)]
 by_cases hlt:i < es.size
 ·have e2:t.place[i]?=some (t.place[i]'(by omega)):=Array.getElem?_eq_getElem (by omega)
  rw [Array.getElem?_eq_getElem hlt] at h ⊢
  rw [e2]
  have e3:q2o t.place (i+1)=t.place[i]'(by omega)+1:=by
   unfold q2o
   rw [if_neg (by omega),Nat.add_sub_cancel,q76 (by omega)]
  rw [e3] at h
  exact h
 ·rw [Array.getElem?_eq_none (by omega)] at h ⊢
  exact h
end
end L2
namespace L2
open PySem PySem.Spec PyProof.Rows XL PySem.Calls PySem.W
section
variable {prog:Program} {w:World}
theorem walk_text {A:Around} (hh:A.handled=none) (I a:Addr) (hne:a≠I) (es:Array (Int × Value)) (ep:Nat) (t:SetTable) (hw:w.params.followText "set-order" = true) :
  Walks prog w A I [I,a] [I] es.size (fun i v=>((pickOrder (w.params.setOrder a ep) es).toList[i]?).map (·.2)=some v) (fun i h=>SetIter h I a (.int 0 0) i es.size ep∧SetAt h a es ep t) where
 sub:=fun b hb=>by simp at hb;simp [hb]
 frame:=fun _ _ _ st hk=>⟨st.1.at fun o e=>hk I (by simp) o e,st.2.at fun o e=>hk a (by simp) o e⟩
 item:=fun i s Q E hi st hQ=>by
  have hl:i < (pickOrder (w.params.setOrder a ep) es).size:=by
   have:=(q47 (w.params.setOrder a ep) es).length_eq
   simp at this
   omega
  refine q80 (slot:=0) (nx:=0) (x:=((pickOrder (w.params.setOrder a ep) es)[i]).2) st.1 st.2 (fun A' E' Q' h=>q93 hw st.2 ?_) fun h' hit' hs'=>?_
  ·rw [Array.getElem?_eq_getElem hl]
   exact h
  ·exact hQ _ h' s.toks (by simp [hl]) ⟨hit',st.2.at fun o e=>hs'.extBut a o hne e⟩ fun b o hb e=>hs'.extBut b o (fun h=>hb (by simp [h])) e
 done:=fun s Q E st hQ=>by
  have hl:(pickOrder (w.params.setOrder a ep) es).size=es.size:=by
   have:=(q47 (w.params.setOrder a ep) es).length_eq
   simpa using this
  refine q8j (slot:=0) hh st.1 st.2 (fun A' E' Q' h=>q93 hw st.2 ?_) fun h' he'=>hQ h' s.toks fun b o hb e=>he' b o (fun h=>hb (by simp [h])) e
  rw [Array.getElem?_eq_none (by omega)]
  exact h
 self:=fun _ _ _ _ st hQ=>q5e st.1 hQ
theorem walk_led {A:Around} (hh:A.handled=none) (I a:Addr) (hne:a≠I) (es:Array (Int × Value)) (ep:Nat) (t:SetTable) (hw:w.params.followText "set-order" = false) (hl:t.led=true) (hp:(!t.plain && decide (es.size > 1))=false)
  (hup:t.place.toList.Pairwise (· < ·)) (hz:t.place.size=es.size) :
  Walks prog w A I [I,a] [I] es.size (fun i v=>(es.toList[i]?).map (·.2)=some v) (fun i h=>SetIter h I a (.int (q2o t.place i) 0) i es.size ep∧SetAt h a es ep t) where
 sub:=fun b hb=>by simp at hb;simp [hb]
 frame:=fun _ _ _ st hk=>⟨st.1.at fun o e=>hk I (by simp) o e,st.2.at fun o e=>hk a (by simp) o e⟩
 item:=fun i s Q E hi st hQ=>by
  refine q80 (nx:=q2o t.place (i+1)) (x:=es[i].2) st.1 st.2 (fun A' E' Q' h=>z1q hw hl hp st.2 hup hz (Nat.le_of_lt hi) ?_) fun h' hit' hs'=>?_
  ·rw [Array.getElem?_eq_getElem hi]
   exact h
  ·exact hQ _ h' s.toks (by simp [hi]) ⟨hit',st.2.at fun o e=>hs'.extBut a o hne e⟩ fun b o hb e=>hs'.extBut b o (fun h=>hb (by simp [h])) e
 done:=fun s Q E st hQ=>by
  refine q8j hh st.1 st.2 (fun A' E' Q' h=>z1q hw hl hp st.2 hup hz (Nat.le_refl _) ?_) fun h' he'=>hQ h' s.toks fun b o hb e=>he' b o (fun h=>hb (by simp [h])) e
  rw [Array.getElem?_eq_none (Nat.le_refl _)]
  exact h
 self:=fun _ _ _ _ st hQ=>q5e st.1 hQ
theorem walk_drawn {A:Around} (hh:A.handled=none) (I a tp:Addr) (hne:a≠I) (hnt:tp≠I) (es:Array (Int × Value)) (ep:Nat) (t:SetTable) (ps:List Nat) (hps:ps.Perm (List.range es.size)) :
  Walks prog w A I [I,a,tp] [I] es.size (fun i v=>((ps.map fun j=>es.getD j (0,.none))[i]?).map (·.2)=some v) (fun i h=>SetIter h I a (.ref tp) i es.size ep∧SetAt h a es ep t∧∃ o n,h.get? tp=some o∧o.data=.seq (ps.map fun (j:Nat)=>rawInt j).toArray n) where
 sub:=fun b hb=>by simp at hb;simp [hb]
 frame:=fun _ _ _ st hk=>⟨st.1.at fun o e=>hk I (by simp) o e,st.2.1.at fun o e=>hk a (by simp) o e,by
  obtain ⟨o,n,h1,h2⟩:=st.2.2
  exact ⟨o,n,hk tp (by simp) o h1,h2⟩⟩
 item:=fun i s Q E hi st hQ=>by
  obtain ⟨o,n,h1,h2⟩:=id st.2.2
  have hil:i < ps.length:=by rw [hps.length_eq,List.length_range];exact hi
  have hj:ps[i] < es.size:=List.mem_range.mp (hps.mem_iff.mp (List.getElem_mem hil))
  refine nextD_some (pl:=ps[i]) (e:=es[ps[i]]) st.1 st.2.1 (fun A' E' Q' h=>wpAny_seqItems h1 h2 h) (by simp [hil,rawInt]) (Array.getElem?_eq_getElem hj) fun h' hit' hs'=>?_
  refine hQ _ h' s.toks ?_ ⟨hit',st.2.1.at fun o e=>hs'.extBut a o hne e,o,n,hs'.extBut tp o hnt h1,h2⟩ fun b o hb e=>hs'.extBut b o (fun h=>hb (by simp [h])) e
  simp [hil,hj,Array.getD]
 done:=fun s Q E st hQ=>by
  obtain ⟨o,n,h1,h2⟩:=id st.2.2
  refine nextD_none hh st.1 st.2.1 (fun A' E' Q' h=>wpAny_seqItems h1 h2 h) ?_ fun h' he'=>hQ h' s.toks fun b o hb e=>he' b o (fun h=>hb (by simp [h])) e
  have:=hps.length_eq
  simp at this
  simp [this]
 self:=fun _ _ _ _ st hQ=>q5e st.1 hQ
end
end L2
namespace L2
open PySem PySem.Spec PyProof.Rows XL PySem.Calls PySem.W
section
variable {prog:Program} {w:World}
theorem SetAt.typeIs {s:Shared} {a es ep t} (x:SetAt s.heap a es ep t):s.TypeIs (.ref a) "set" := let ⟨o,ho,hc,_⟩:=x.ex;⟨o,ho,hc.1⟩
theorem SetAt.lt {h:Heap} {a es ep t} (x:SetAt h a es ep t):a < h.objs.size:=let ⟨_,ho,_⟩:=x.ex;Heap.lt_size ho
theorem fits_place {t:SetTable} {n:Nat} (h:t.fits n=true):t.place.size=n:=by
 unfold SetTable.fits at h
 simp at h
 exact h.1
theorem get_perm {es:Array (Int × Value)} {ps:List Nat} (hp:ps.Perm (List.range es.size)):(ps.map fun j=>es.getD j (0,.none)).Perm es.toList:=by
 refine (hp.map _).trans ?_
 have e:(List.range es.size).map (fun j=>es.getD j (0,.none))=es.toList:=by
  refine List.ext_getElem (by simp) fun i h1 h2=>?_
  have h2':i < es.size:=by simpa using h2
  simp [Array.getD,h2']
 rw [e]
theorem iter_set {A:Around} {E:Value→Shared→Prop} {s:Shared} {a:Addr} {es:Array (Int × Value)} {ep:Nat} {t:SetTable} {Q:Value→Shared→Prop} (hs:SetAt s.heap a es ep t) (si:SI (q2t w) t) (hsz:es.size < 4096)
  (q:∀ (I:Addr) (h':Heap) dr (fp:List Addr) (ord:List (Int × Value)) (St:Nat→Heap→Prop),ord.Perm es.toList→
   (∀ A':Around,A'.handled=none→Walks prog w A' I fp [I] es.size (fun i v=>(ord[i]?).map (·.2)=some v) St)→St 0 h'→(∀ b∈fp,b=a∨s.heap.objs.size≤b)→s.heap.objs.size≤I→I < h'.objs.size→
   (∀ b o,s.heap.get? b=some o→h'.get? b=some o)→Q (.ref I) { s with heap:=h',drawn:=dr }):wpAny (model prog w) A (pyIter (.ref a)) Q E s:=by
 obtain ⟨o,ho,hex,hd⟩:=id hs.ex
 refine wpAny_pyIter_slot hs.typeIs F.slot_set_iter (wpAny_call_entry F.slot_set_iter hs.typeIs q6d ?_ (F.args_set_iter_1 _))
 unfold Builtin.«frozenset.__iter__» Builtin.Frozenset.slot0 slotArgs
 simp only [List.isEmpty_nil,Bool.not_true,Bool.false_eq_true,↓reduceIte,bind_assoc,List.length_nil,bne_self_eq_false]
 unfold Builtin.Frozenset.addrOf Builtin.Frozenset.sizeOf
 refine wpAny_bind (wpAny_pure ?_)
 try dsimp only
 refine wpAny_bind (wpAny_pure ?_)
 refine wpAny_bind (wpAny_bind (wpAny_setEntries_of ho hd hs.fits (wpAny_pure ?_)))
 refine wpAny_bind (m:=setDrawn a) (wpAny_bind (m:=setState a) (wpAny_setState_of ho hd hs.fits ?_))
 dsimp only
 refine wpAny_bind (m:=setsByText) (wpAny_bind (m:=ask) (wpAny_askSetting (wpAny_pure ?_)))
 refine wpAny_pure ?_
 obtain ⟨bt,hbt⟩:∃ bt,w.params.followText "set-order" = bt:=⟨_,rfl⟩
 obtain ⟨bd,hbd⟩:∃ bd,(!t.plain && decide (es.size > 1))=bd:=⟨_,rfl⟩
 show wpAny _ _ (if (!(w.params.followText "set-order") && (!t.plain && decide (es.size > 1)))=true then _ else _) _ _ s
 rw [hbt,hbd]
 have ne:a≠s.heap.objs.size:=Nat.ne_of_lt hs.lt
 cases bt with
 | true=>
  refine wpAny_ite_false rfl (wpAny_bind (wpAny_pure ?_))
  refine wpAny_bind (m:=setEpoch a) (wpAny_bind (m:=setState a) (wpAny_setState_of ho hd hs.fits (wpAny_pure ?_)))
  refine wpAny_bind (wpAny_newObj_type (wpAny_pure ⟨_,rfl, "set_iterator",_,⟨_,Heap.get?_push_size _ rfl,rfl⟩,slot_seti_next.lookup,?_⟩))
  refine q s.heap.objs.size _ s.drawn [s.heap.objs.size,a] _ _ (q47 (w.params.setOrder a ep) es) (fun A' hh=>walk_text hh _ a ne es ep t hbt) ⟨⟨_,Heap.get?_push_size _ rfl,rfl,rfl⟩,hs.at fun o e=>Heap.get?_push_of_some _ e⟩ ?_ (Nat.le_refl _) (by rw [size_push'];exact Nat.lt_succ_self _) fun b o e=>Heap.get?_push_of_some _ e
  intro b hb
  simp at hb
  rcases hb with rfl | rfl
  ·exact .inr (Nat.le_refl _)
  ·exact .inl rfl
 | false=>
  have hl:t.led=true:=by rw [si.led];show (!w.params.followText "set-order")=true;rw [hbt];rfl
  cases bd with
  | false=>
   refine wpAny_ite_false rfl (wpAny_bind (wpAny_pure ?_))
   refine wpAny_bind (m:=setEpoch a) (wpAny_bind (m:=setState a) (wpAny_setState_of ho hd hs.fits (wpAny_pure ?_)))
   refine wpAny_bind (wpAny_newObj_type (wpAny_pure ⟨_,rfl, "set_iterator",_,⟨_,Heap.get?_push_size _ rfl,rfl⟩,slot_seti_next.lookup,?_⟩))
   refine q s.heap.objs.size _ s.drawn [s.heap.objs.size,a] _ _ (.refl _) (fun A' hh=>walk_led hh _ a ne es ep t hbt hl hbd si.up (fits_place hs.fits)) ⟨⟨_,Heap.get?_push_size _ rfl,rfl,rfl⟩,hs.at fun o e=>Heap.get?_push_of_some _ e⟩ ?_ (Nat.le_refl _) (by rw [size_push'];exact Nat.lt_succ_self _) fun b o e=>Heap.get?_push_of_some _ e
   intro b hb
   simp at hb
   rcases hb with rfl | rfl
   ·exact .inr (Nat.le_refl _)
   ·exact .inl rfl
  | true=>
   refine wpAny_ite_true rfl (wpAny_bind ?_)
   refine q6p es.size (List.range es.size) _ _ List.length_range fun ps dr hps=>?_
   have hlen:ps.length=es.size:=by rw [hps.length_eq,List.length_range]
   refine wpAny_bind (wpAny_newTuple ?_ (by rw [List.length_map,hlen,sizeLine_eq];omega))
   have ho1:=Heap.get?_push_of_some (h:=s.heap) { cls:=.type "tuple",data:=.seq (ps.map fun (i:Nat)=>rawInt i).toArray } ho
   refine wpAny_bind (m:=setEpoch a) (wpAny_bind (m:=setState a) (wpAny_setState_of ho1 hd hs.fits (wpAny_pure ?_)))
   refine wpAny_bind (wpAny_newObj_type (wpAny_pure ⟨_,rfl, "set_iterator",_,⟨_,Heap.get?_push_size _ rfl,rfl⟩,slot_seti_next.lookup,?_⟩))
   refine q _ _ dr [_,a,s.heap.objs.size] _ _ (get_perm hps) (fun A' hh=>walk_drawn hh _ a s.heap.objs.size (by rw [size_push'];exact Nat.ne_of_lt (Nat.lt_succ_of_lt hs.lt)) (by rw [size_push'];exact Nat.ne_of_lt (Nat.lt_succ_self _)) es ep t ps hps) ⟨⟨_,Heap.get?_push_size _ rfl,rfl,rfl⟩,hs.at fun o e=>Heap.get?_push_of_some _ (Heap.get?_push_of_some _ e),_,_,Heap.get?_push_of_some _ (Heap.get?_push_size _ rfl),rfl⟩ ?_ (by rw [size_push'];exact Nat.le_succ _) (by rw [size_push',size_push',size_push'];exact Nat.lt_succ_self _) fun b o e=>Heap.get?_push_of_some _ (Heap.get?_push_of_some _ e)
   intro b hb
   simp at hb
   rcases hb with rfl | rfl | rfl
   ·exact .inr (Nat.le_succ _)
   ·exact .inl rfl
   ·exact .inr (Nat.le_refl _)
theorem hint_set {A:Around} {E:Value→Shared→Prop} {s:Shared} {r:Addr} {Q:Bool→Shared→Prop} (hT:s.TypeIs (.ref r) "set") (h:Q false s):wpAny (model prog w) A (Builtin.List.listLengthHint (.ref r)) Q E s:=by
 unfold Builtin.List.listLengthHint
 refine wpAny_bind (wpAny_specialOf hT PySem.F.slot_set_len.lookup ?_)
 generalize hid:("set.__len__" : String)=id0
 wp_delta
 rw [show splitId id0=some ("set", "__len__") from by subst hid;decide +kernel]
 subst hid
 refine wpAny_bind (wpAny_isInstance (T := "set") (b:=true) hT (by rw [isSubtype_type];kernel_rfl) ?_)
 refine wpAny_ite_split (fun hab=>absurd hab (by decide)) (fun _=>?_)
 refine wpAny_ite_split (fun _=>?_) (fun hab=>absurd (by decide +kernel) hab)
 refine wpAny_bind (wpAny_typeOf hT ?_)
 exact wpAny_pure h
end
end L2
namespace L2
open PySem PySem.Spec PyProof.Rows XL PySem.Calls PySem.W
section
variable {prog:Program} {w:World} {A:Around} {E:Value→Shared→Prop} {s:Shared}
theorem extend_set {R:Result→Shared→Prop} {a:Addr} {es:Array (Int × Value)} {ep:Nat} {t:SetTable} (hh:A.handled=none) (hs:SetAt s.heap a es ep t) (si:SI (q2t w) t) (hsz:es.size < 4096) (S:Addr) (hSa:S≠a) (res:Value) (c₀:Nat) (hS:s.heap.get? S=some { cls:=.type "list",data:=.seq #[] c₀ })
  (hR:∀ (h':Heap) tk dr acc' c' (ord:List (Int × Value)),ord.Perm es.toList→(∀ b o,b≠S→s.heap.get? b=some o→h'.get? b=some o)→h'.get? S=some { cls:=.type "list",dict:=none,data:=.seq acc' c',slots:=#[] }→ItemsOf (fun i v=>(ord[i]?).map (·.2)=some v) acc' es.size→R (.ok (.ret res)) { s with heap:=h',toks:=tk,drawn:=dr }) :
  wpAny (model prog w) A.in1 (Builtin.List.listExtendWith (.ref S) (.ref a) res)
   (fun fin s'=>match fin with | .done f=>R (.ok f) s' | .again c'=>c'.quiet=true∧codeAny (model prog w) A c' R s') (fun e s'=>R (.error e) s') s:=by
 unfold Builtin.List.listExtendWith
 refine wpAny_bind (wpAny_typeOf (T := "set") hs.typeIs ?_)
 have h1:Builtin.List.listSameRef (.ref S) (.ref a)=false:=by simp [Builtin.List.listSameRef,hSa]
 simp only [h1,show (Value.type "set" == Value.type "list")=false by decide,show (Value.type "set" == Value.type "tuple")=false by decide,Bool.or_false,Bool.false_eq_true,if_false]
 have hSl:=Heap.lt_size hS
 refine wpAny_bind (iter_set hs si hsz fun I h1 dr fp ord St hperm W st hfp hI hI2 hk1=>?_)
 have hSf:S ∉ fp:=fun z=>by
  rcases hfp S z with z | z
  ·exact hSa z
  ·exact absurd hSl (Nat.not_lt.mpr z)
 have key:∀ (h:Heap) (c₁ tk:Nat),St 0 h→(∀ b o,b≠S→s.heap.get? b=some o→h.get? b=some o)→
   h.get? S=some { cls:=.type "list",data:=.seq #[] c₁ }→codeAny (model prog w) A (.builtin "list.extend.loop" ⟨[.ref S,.ref I,res],[]⟩) R { s with heap:=h,toks:=tk,drawn:=dr }:=by
  intro h c₁ tk hst hk hS₁
  refine codeAny_extend_loopS (W A.in1 hh).toS (by rw [sizeLine_eq];omega) S hSf res es.size 0 _ #[] c₁ rfl (Nat.zero_le _) hst hS₁ (ItemsOf.nil _) fun s' acc' c' hm hS' hacc=>?_
  rw [Moved.eq_with hm]
  refine hR s'.heap s'.toks dr acc' c' ord hperm (fun b o hb e=>hm.heap b o (fun hmem=>?_) (hk b o hb e)) hS' hacc
  rcases List.mem_cons.mp hmem with e' | hmem
  ·exact hb e'
  ·exact absurd (Heap.lt_size e) (by rw [List.mem_singleton.mp hmem];exact Nat.not_lt.mpr hI)
 have hS₁:=hk1 _ _ hS
 refine wpAny_bind (wpAny_holding (hint_set (hs.at fun o e=>hk1 _ o e).typeIs ?_))
 refine wpAny_ite_split (fun _=>?_) (fun _=>wpAny_pure ⟨plainId_quiet PySem.F.plain_extend_loop _,key _ c₀ _ st (fun b o _ e=>hk1 _ _ e) hS₁⟩)
 refine wpAny_bind (wpAny_rule ?_)
 refine wpAny_bind ?_
 show wpAny _ _ (updateSeq S (·.push .none) >>= fun _=>updateSeq S (·.pop)) _ _ _
 refine wpAny_bind (wpAny_updateSeq hS₁ rfl ?_)
 have hS₂:=Heap.get?_update_self (Obj.mapSeq (·.push Value.none)) hS₁ rfl
 refine wpAny_updateSeq (hz:=by seq_fits) hS₂ rfl ?_
 have hS₃:=Heap.get?_update_self (Obj.mapSeq (·.pop)) hS₂ rfl
 refine wpAny_pure ⟨plainId_quiet PySem.F.plain_extend_loop _,key _ _ _ ?_ (fun b o hb e=>?_) hS₃⟩
 ·refine (W A.in1 hh).frame 0 _ _ st fun b hb o e=>?_
  have hbS:b≠S:=fun h=>hSf (h ▸ hb)
  exact (Heap.get?_update_other _ _ (Ne.symm hbS)).trans ((Heap.get?_update_other _ _ (Ne.symm hbS)).trans e)
 ·exact (Heap.get?_update_other _ _ (Ne.symm hb)).trans ((Heap.get?_update_other _ _ (Ne.symm hb)).trans (hk1 _ _ e))
theorem q9o {R:List Value→Shared→Prop} {a:Addr} {es:Array (Int × Value)} {ep:Nat} {t:SetTable} (hh:A.handled=none) (hs:SetAt s.heap a es ep t) (si:SI (q2t w) t) (hsz:es.size < 4096)
  (h:∀ (h':Heap) tk dr (acc:Array Value) (ord:List (Int × Value)),(∀ b o,s.heap.get? b=some o→h'.get? b=some o)→ord.Perm es.toList→ItemsOf (fun i v=>(ord[i]?).map (·.2)=some v) acc es.size→R acc.toList { s with heap:=h',toks:=tk,drawn:=dr }) :
  wpAny (model prog w) A (collect (.ref a)) R E s:=by
 have hlt:=hs.lt
 unfold collect
 refine wpAny_bind (wpAny_runValue (codeAny_builtin entry_proto_collect' ?_))
 rw [Around.under_plainId PySem.F.plain_proto_collect _]
 show wpAny _ A.in1 (newList [] >>= fun l=>again (.builtin "list.__iadd__" ⟨[l,.ref a],[]⟩)) _ _ s
 refine wpAny_bind (wpAny_newObj_type ?_)
 refine wpAny_pure ⟨plainId_quiet PySem.F.plain_list_iadd _,codeAny_builtin entry_list_iadd' ?_⟩
 rw [Around.under_plainId PySem.F.plain_list_iadd _]
 have hS₁:(s.heap.push { cls:=.type "list",data:=.seq ([]:List Value).toArray }).get? s.heap.objs.size=some { cls:=.type "list",data:=.seq #[] }:=Heap.get?_push_size _ rfl
 show wpAny _ A.in1 (Builtin.List.listExtendWith (.ref s.heap.objs.size) (.ref a) (.ref s.heap.objs.size)) _ _ _
 have key:=extend_set (prog:=prog) (w:=w) (A:=A) (s:={ s with heap:=s.heap.push { cls:=.type "list",data:=.seq ([]:List Value).toArray } })
  (R:=fun (q:Result) (s':Shared)=>∃ (h':Heap) (tk:Nat) (dr:Drawn) (acc':Array Value) (c':Nat) (ord:List (Int × Value)),q=.ok (.ret (.ref s.heap.objs.size))∧s'={ s with heap:=h',toks:=tk,drawn:=dr }∧ord.Perm es.toList∧
   (∀ b o,s.heap.get? b=some o→h'.get? b=some o)∧h'.get? s.heap.objs.size=some { cls:=.type "list",dict:=none,data:=.seq acc' c',slots:=#[] }∧ItemsOf (fun i v=>(ord[i]?).map (·.2)=some v) acc' es.size)
  hh (hs.at fun o e=>Heap.get?_push_of_some _ e) si hsz s.heap.objs.size (Nat.ne_of_gt hlt) (.ref s.heap.objs.size) 0 hS₁
  (fun h' tk dr acc' c' ord hp hk hS' hacc=>⟨h',tk,dr,acc',c',ord,rfl,rfl,hp,fun b o e=>hk b o (Nat.ne_of_lt (Heap.lt_size e)) (Heap.get?_push_of_some _ e),hS',hacc⟩)
 refine wpAny_mono key (fun fin s' x=>?_) fun e s' x=>?_
 ·cases fin with
  | done f=>
   obtain ⟨h',tk,dr,acc',c',ord,e,rfl,hp,hk,hS',hacc⟩:=x
   cases e
   show wpAny _ A (load s.heap.objs.size >>= _) _ _ _
   refine wpAny_bind (wpAny_load hS' ?_)
   exact wpAny_pure (h h' tk dr acc' ord hk hp hacc)
  | again c₁=>
   refine ⟨x.1,codeAny_mono x.2 fun q s₂ y=>?_⟩
   obtain ⟨h',tk,dr,acc',c',ord,rfl,rfl,hp,hk,hS',hacc⟩:=y
   show wpAny _ A (load s.heap.objs.size >>= _) _ _ _
   refine wpAny_bind (wpAny_load hS' ?_)
   exact wpAny_pure (h h' tk dr acc' ord hk hp hacc)
 ·obtain ⟨_,_,_,_,_,_,e',_⟩:=x
  cases e'
end
end L2
namespace L2
open PySem PySem.Spec PyProof.Rows XL PySem.Calls PySem.W
theorem mem_dedup (acc:List Int) (x k:Int):k∈step_dedup acc x↔k∈acc∨k=x:=by
 unfold step_dedup
 split
 ·rename_i h
  constructor
  ·exact .inl
  ·rintro (z | z)
   ·exact z
   ·subst z
    simpa using h
 ·simp
theorem q9p {acc:List Int} (x:Int) (h:acc.Nodup):(step_dedup acc x).Nodup:=by
 unfold step_dedup
 split
 ·exact h
 ·rename_i hx
  refine List.nodup_append.mpr ⟨h,by simp,fun a ha b hb=>?_⟩
  simp at hb
  subst hb
  intro e
  subst e
  exact hx (by simpa using ha)
theorem q3s (val:Nat→Int):∀ i,(firstMet val i).Nodup
 | 0=>.nil
 | i+1=>by rw [firstMet_succ];exact q9p _ (q3s val i)
theorem q4w (val:Nat→Int) (k:Int):∀ i,k∈firstMet val i↔∃ j,j < i∧val j=k
 | 0=>by simp [firstMet_zero]
 | i+1=>by
  rw [firstMet_succ,mem_dedup,q4w val k i]
  constructor
  ·rintro (⟨j,h1,h2⟩ | h)
   ·exact ⟨j,by omega,h2⟩
   ·exact ⟨i,by omega,h.symm⟩
  ·rintro ⟨j,h1,h2⟩
   rcases Nat.lt_or_eq_of_le (show j≤i by omega) with z | z
   ·exact .inl ⟨j,z,h2⟩
   ·subst z
    exact .inr h2.symm
theorem q1f (ns:List Int):(q0j ns).Nodup:=q3s _ _
theorem mem_distinct {ns:List Int} {k:Int}:k∈q0j ns↔k∈ns:=by
 unfold q0j
 rw [q4w,List.mem_iff_getElem]
 constructor
 ·rintro ⟨j,h1,h2⟩
  exact ⟨j,h1,by rw [← h2,List.getD_eq_getElem?_getD,List.getElem?_eq_getElem h1];rfl⟩
 ·rintro ⟨j,h1,h2⟩
  exact ⟨j,h1,by rw [← h2,List.getD_eq_getElem?_getD,List.getElem?_eq_getElem h1];rfl⟩
theorem q6y {α:Type} [BEq α] [LawfulBEq α]:∀ {d m:List α},d.Nodup→(∀ x∈d,x∈m)→m.length≤d.length→d.Perm m
 | [],m,_,_,hl=>by
  have:m=[]:=List.eq_nil_of_length_eq_zero (Nat.le_zero.mp hl)
  rw [this]
 | x::t,m,hn,hs,hl=>by
  have hx:x∈m:=hs x List.mem_cons_self
  have hp:=List.perm_cons_erase hx
  obtain ⟨h1,h2⟩:=List.nodup_cons.mp hn
  refine ((q6y h2 (m:=m.erase x) (fun y hy=>?_) ?_).cons x).trans hp.symm
  ·have:y≠x:=fun e=>h1 (e ▸ hy)
   exact (List.mem_erase_of_ne this).mpr (hs y (List.mem_cons_of_mem _ hy))
  ·have:=hp.length_eq
   simp at this hl
   omega
theorem q84 {P:Program} {w:World}:∀ {ord:List (Int × Value)},(∀ e∈ord,∃ k,(intKind P w).is k e.2=true)→∃ ms,IntsAre (ord.map (·.2)) ms∧∀ k,k∈ms↔∃ e∈ord,(intKind P w).is k e.2=true
 | [],_=>⟨[],.nil,fun k=>by simp⟩
 | (h,v)::t,hk=>by
  obtain ⟨ms,h1,h2⟩:=q84 (P:=P) (w:=w) (ord:=t) fun e he=>hk e (List.mem_cons_of_mem _ he)
  obtain ⟨k,hk0⟩:=hk (h,v) List.mem_cons_self
  obtain ⟨tk,rfl⟩:=Value.isInt_shape (k:=k) (v:=v) hk0
  refine ⟨k::ms,.cons k tk h1,fun k'=>?_⟩
  rw [List.mem_cons,h2 k']
  constructor
  ·rintro (z | ⟨e,he,hi⟩)
   ·subst z
    exact ⟨_,List.mem_cons_self,hk0⟩
   ·exact ⟨e,List.mem_cons_of_mem _ he,hi⟩
  ·rintro ⟨e,he,hi⟩
   rcases List.mem_cons.mp he with z | z
   ·subst z
    obtain ⟨t2,e2⟩:=Value.isInt_shape (k:=k') (v:=Value.int k tk) hi
    injection e2 with e3
    exact .inl e3.symm
   ·exact .inr ⟨e,z,hi⟩
theorem ord_items {ord:List (Int × Value)} {acc:Array Value} {n:Nat} (hn:ord.length=n) (h:ItemsOf (fun i v=>(ord[i]?).map (·.2)=some v) acc n):acc.toList=ord.map (·.2):=by
 refine List.ext_getElem? fun i=>?_
 rw [List.getElem?_map,Array.getElem?_toList]
 by_cases hi:i < acc.size
 ·have:=h.2 i acc[i] (Array.getElem?_eq_getElem hi)
  rw [this,Array.getElem?_eq_getElem hi]
 ·rw [Array.getElem?_eq_none (by omega),List.getElem?_eq_none (by rw [hn,← h.1];omega)]
  rfl
theorem set_ints {P:Program} {w:World} {es:Array (Int × Value)} {ord:List (Int × Value)} {acc:Array Value} {ns:List Int} (hel:ElemsOf (intKind P w) es.toList) (hm:∀ k,((q0j ns).any fun x=>x == k)=true↔∃ e,e∈es.toList∧(intKind P w).is k e.snd=true) (hz:es.size=(q0j ns).length)
  (hp:ord.Perm es.toList) (h:ItemsOf (fun i v=>(ord[i]?).map (·.2)=some v) acc es.size):∃ ms,IntsAre acc.toList ms∧(q0j ns).Perm ms:=by
 have hl:ord.length=es.size:=by rw [hp.length_eq,Array.length_toList]
 obtain ⟨ms,h1,h2⟩:=q84 (P:=P) (w:=w) (ord:=ord) fun e he=>by
  obtain ⟨⟨k,hk,_⟩,_⟩:=hel e (hp.mem_iff.mp he)
  exact ⟨k,hk⟩
 have hlen:ms.length=ord.length:=by
  have:=h1.length
  rw [List.length_map] at this
  omega
 refine ⟨ms,by rw [ord_items hl h];exact h1,q6y (q1f ns) (fun x hx=>?_) (by omega)⟩
 obtain ⟨e,he,hi⟩:=(hm x).mp (List.any_eq_true.mpr ⟨x,hx,by simp⟩)
 exact (h2 x).mpr ⟨e,hp.mem_iff.mpr he,hi⟩
end L2
namespace L2
open PySem PySem.Spec PyProof.Rows XL PySem.Calls PySem.W
section
variable {X:Cx} {pins:List (Addr × Obj)} {σ:St} {H:Hp} {s:Shared}
theorem Inv.drew (I:Inv X pins σ H s) (d:Drawn):Inv X pins σ H { s with drawn:=d }:=⟨I.ok,I.os,I.bare,I.base,I.loc,I.cell,I.free,I.freeC,I.pin,I.hok,I.len⟩
abbrev SetD (X:Cx) (h:Heap) (d:Addr) (ns:List Int):Prop:=SetSI (intKind X.prog X.w) h d (fun k'=>(q0j ns).any fun x=>x == k') (q0j ns).length (q2t X.w)
theorem ev_set {x:Str} {p pos:Pos} {e:Expr} {t:TA} {R:Value→Shared→Prop} (hc:X.calm=true) (hg:Gl X x) (hm:X.mg x=none) (hv:bootBuiltins x=some (.type "set")) (ha:PA X [e] t) (I:Inv X pins σ H s)
  {Q0:List V→Hp→Prop} (h0:t σ H Q0) (h:∀ xs H1,Q0 xs H1→∃ (p:Addr) (ns:List Int),xs=[.ref p]∧SqL X.K H1 p (ns.map V.int)∧ns.length+1 < scanBound∧∀ (d:Addr) (s':Shared),Inv X pins σ H1 s'→H1 d=none→SetD X s'.heap d ns→R (.ref d) s')
  (hn:x ≠ "__name__" := by decide) (hdb:(x == ("__debug__" : Str))=false:=by decide) (he:starEach [e] X.env=(false,eval e X.env)::starEach [] X.env:=by rfl):wpAny (model X.prog X.w) X.A (eval (.Call (.Name x p) [e] [] pos) X.env) R X.xe s:=by
 refine wpAny_Call_Name_kw (q2s I hg hm hv ?_ hn hdb)
 refine PyProof.Rows.callWith_type1 (thn (ha pos pins s σ H _ I h0) fun us s1 ⟨vs,H1,I1,r1,q0⟩=>?_) he rfl
 obtain ⟨p,ns,e1,hp,hl,q⟩:=h vs H1 q0
 subst e1
 obtain ⟨u,rfl,ru⟩:=r1.one
 cases ru
 obtain ⟨its,rv,pl,hz⟩:=I1.list hp
 have hI:=q4e rv
 have hlen:=hI.length
 have hsz:its.toArray.size=ns.length:=by rw [List.size_toArray,hlen]
 refine z05 (ns:=ns) (I1.ok.hd hc) pl.isList (by simpa using hI) (by rw [hsz];exact hl) fun h' tk hS hk=>?_
 rw [hsz] at hS
 exact q _ _ (I1.kept fun b o e=>hk b o (Heap.lt_size e) e) I1.fresh hS
theorem sorted_set {d:Addr} {ns:List Int} {Q:VK} (hc:X.calm=true) (I:Inv X pins σ H s) (hS:SetD X s.heap d ns) (h64:(q0j ns).length < 64)
  (q:∀ (d:Addr) (ns':List Int),H d=none→ns'.Perm (q0j ns)→ns'.Pairwise (·≤·)→Q (.ref d) (upd H d (.lst (ns'.map V.int)))):wpAny (model X.prog X.w) X.A (call (.builtin "sorted") [.ref d]) (EP X pins σ Q) X.xe s:=by
 obtain ⟨o,es,ep,t,ho,hex,hd,hel,hm,hb,hf,hz,si⟩:=hS.ex
 have hat:SetAt s.heap d es ep t:=⟨⟨o,ho,hex,hd⟩,hf⟩
 refine Calls.call_function_entry kind_sorted plain_sorted entry_sorted (args_sorted1 _) ?_
 unfold Builtin.«sorted»
 refine wpAny_bind (m:=checkCount "sorted" 1 1 _) (wpAny_pure ?_)
 refine wpAny_bind (q9o (A:=X.A.in1) (I.ok.hd hc) hat si hb fun h' tk dr acc ord hk hp hacc=>?_)
 obtain ⟨ms,hI,hpm⟩:=set_ints hel hm hz hp hacc
 have hl:=hI.length
 have hl2:=hpm.length_eq
 refine wpAny_bind (wpAny_newList ?_ (by rw [hl,sizeLine_eq];omega))
 have hoL:(h'.push (seqObj "list" acc.toList.toArray 0)).get? h'.objs.size=some (seqObj "list" acc.toList.toArray 0):=Heap.get?_push_size _ rfl
 refine wpAny_bind (wpAny_holding (wpAny_call_entry slot_list_sort ⟨_,hoL,rfl⟩ entry_list_sort (list_sort_tree hoL hI (by omega) fun out ns' a1 a2 a3=>⟨_,rfl,?_⟩) (args_list_sort _)))
 refine wpAny_pure ⟨_,rfl,?_⟩
 obtain ⟨e,he⟩:=sortedHeap_at (out:=out) hoL
 have old:∀ b o,h'.get? b=some o→(sortedHeap (h'.push (seqObj "list" acc.toList.toArray 0)) h'.objs.size acc.toList out).get? b=some o:=fun b o eb'=>by
  have hlt:=Heap.lt_size eb'
  rw [sortedHeap_old (Nat.ne_of_lt hlt) (by rw [size_push'];exact Nat.lt_succ_of_lt hlt)]
  exact Heap.get?_push_of_some _ eb'
 have I1:Inv X pins σ H { s with heap:=h',toks:=tk,drawn:=dr }:=(I.kept (t':=tk) hk).drew dr
 refine ⟨.ref h'.objs.size,_,I1.laid (t':=tk) old (Nat.le_refl _) (a:=h'.objs.size) (o:=.lst (ns'.map V.int)) ⟨?_,out.toList,e,q7i a1,?_⟩,rfl,q _ ns' I1.fresh (a2.trans hpm.symm) a3⟩
 ·rw [List.length_map,a2.length_eq,sizeLine_eq]
  omega
 ·rw [he]
def rSS (K:List (Addr × Obj)):List V→Hp→VK→Prop:=fun xs H Q=>∃ (p:Addr) (ns:List Int),xs=[.ref p]∧SqL K H p (ns.map V.int)∧ns.length+1 < scanBound∧(q0j ns).length < 64∧∀ (d:Addr) (ns':List Int),H d=none→ns'.Perm (q0j ns)→ns'.Pairwise (·≤·)→Q (.ref d) (upd H d (.lst (ns'.map V.int)))
theorem q3a {x y:Str} {p p2 pos pos2:Pos} {e:Expr} {t:TA} (hc:X.calm=true) (hg:Gl X x) (hm:X.mg x=none) (hv:bootBuiltins x=some (.builtin "sorted")) (hg2:Gl X y) (hm2:X.mg y=none) (hv2:bootBuiltins y=some (.type "set")) (ha:PA X [e] t)
  (hn:x ≠ "__name__" := by decide) (hdb:(x == ("__debug__" : Str))=false:=by decide) (hn2:y ≠ "__name__" := by decide) (hdb2:(y == ("__debug__" : Str))=false:=by decide) (he:starEach [e] X.env=(false,eval e X.env)::starEach [] X.env:=by rfl) :
  PE X (.Call (.Name x p) [.Call (.Name y p2) [e] [] pos2] [] pos) (tCB (rSS X.K) t):=by
 intro pins s σ H Q I h
 refine wpAny_Call_Name_kw (q2s I hg hm hv ?_ hn hdb)
 refine PyProof.Rows.callWith_builtin1 ?_ rfl rfl
 show wpAny _ _ (spliced ((false,eval (.Call (.Name y p2) [e] [] pos2) X.env)::backTo pos (starEach [] X.env))) _ _ s
 refine Calls.spliced_cons (ev_set hc hg2 hm2 hv2 ha I h ?_ hn2 hdb2 he)
 rintro vs H1 ⟨p,ns,e1,hp,hl,h64,q⟩
 refine ⟨p,ns,e1,hp,hl,fun d s' I' hd hS=>?_⟩
 exact Calls.spliced_nil (sorted_set hc I' hS h64 q)
end
end L2
namespace L2
open PySem PySem.Spec PyProof.Rows XL PySem.Calls PySem.W
section
variable {prog:Program} {w:World} {A:Around} {E:Value→Shared→Prop} {s:Shared}
abbrev ISet (prog:Program) (w:World) (h:Heap) (a:Addr) (S:Int→Bool) (n:Nat):Prop:=h.SetOf (intKind prog w) a S n
theorem q2k {k:Int} {v:Value} (h:(intKind prog w).is k v=true):∃ t,v=.int k t:=Value.isInt_shape (k:=k) (v:=v) h
theorem quiet_ints {sets:List Addr} {Q:Bool→Shared→Prop} (hs:∀ a∈sets,∃ S n,ISet prog w s.heap a S n) (h:Q true s):wpAny (model prog w) A (setsQuiet sets) Q E s:=by
 unfold setsQuiet
 refine wpAny_bind (wpAny_forIn_list _ (fun rest b s'=>b=⟨none,()⟩∧s'=s∧∀ a∈rest,a∈sets) _ ?_ ?_ sets _ ⟨rfl,rfl,fun _ z=>z⟩)
 ·rintro a rest b s' ⟨rfl,rfl,hm⟩
  obtain ⟨S,n,o,es,ep,t,ho,hex,hd,hel,hmm,hb,hf,hn⟩:=hs a (hm a List.mem_cons_self)
  refine wpAny_bind (m:=setEntries a) (wpAny_setEntries_of ho hd hf ?_)
  refine wpAny_bind (forIn_array_ _ (fun rest b s1=>b=⟨none,()⟩∧s1=s'∧∀ e∈rest,e∈es.toList) _ ?_ ?_ es _ ⟨rfl,rfl,fun _ z=>z⟩)
  ·rintro ⟨h1,x⟩ rest1 b s1 ⟨rfl,rfl,hm1⟩
   obtain ⟨⟨k,hk,_⟩,_⟩:=hel (h1,x) (hm1 _ List.mem_cons_self)
   obtain ⟨tk,rfl⟩:=q2k (prog:=prog) (w:=w) hk
   exact wpAny_pure ⟨rfl,rfl,fun e he=>hm1 e (List.mem_cons_of_mem _ he)⟩
  ·rintro b s1 ⟨rfl,rfl,_⟩
   exact wpAny_pure ⟨rfl,rfl,fun e he=>hm e (List.mem_cons_of_mem _ he)⟩
 ·rintro b s' ⟨rfl,rfl,_⟩
  exact wpAny_pure h
theorem walk_plain {a:Addr} {es:Array (Int × Value)} {ep:Nat} {t:SetTable} (hs:SetAt s.heap a es ep t) {Q:Array (Int × Value)→Shared→Prop} (hc:w.params.followText "set-order" = true∨(t.led=true∧t.plain=true)∨es.size≤1)
  (h:∀ l:Array (Int × Value),l.toList.Perm es.toList→Q l s):wpAny (model prog w) A (setWalk a) Q E s:=by
 obtain ⟨o,ho,hex,hd⟩:=id hs.ex
 refine wpAny_bind (m:=setState a) (wpAny_setState_of ho hd hs.fits ?_)
 dsimp only
 refine wpAny_bind (m:=setsByText) (wpAny_bind (m:=ask) (wpAny_askSetting (wpAny_pure ?_)))
 dsimp only
 by_cases hw:w.params.followText "set-order" = true
 ·refine wpAny_ite_true (decide_eq_true hw) ?_
  refine wpAny_bind (m:=ask) (wpAny_askSetting (wpAny_pure ?_))
  exact h _ (q47 _ _)
 ·refine wpAny_ite_false (decide_eq_false hw) ?_
  have hp:(!t.plain && decide (es.size > 1))=false:=by
   rcases hc with z | z | z
   ·exact absurd z hw
   ·rw [z.2];rfl
   ·rw [decide_eq_false (by omega),Bool.and_false]
  have hl:(!t.led && decide (es.size > 1))=false:=by
   rcases hc with z | z | z
   ·exact absurd z hw
   ·rw [z.1];rfl
   ·rw [decide_eq_false (by omega),Bool.and_false]
  refine wpAny_ite_false (decide_eq_false (by show ¬ ((!t.plain && decide (es.size > 1))=true);rw [hp];exact Bool.false_ne_true)) ?_
  refine wpAny_bind (Q:=fun _ s'=>_) ?_
  show wpAny _ _ (if (!t.led && decide (es.size > 1))=true then unsupported _ else pure ()) _ _ s
  rw [hl]
  refine wpAny_ite_false (by simp) (wpAny_pure ?_)
  exact wpAny_pure (h es (.refl _))
theorem q9x {a f:Addr} {others:List Addr} {es:Array (Int × Value)} {ep:Nat} {t:SetTable} (hs:SetAt s.heap a es ep t) (hq:∀ b∈a::others,∃ S n,ISet prog w s.heap b S n) {Sf:Int→Bool} {nf:Nat} (hf:ISet prog w s.heap f Sf nf) {Q:Array (Int × Value)→Shared→Prop}
  (h:∀ (l:Array (Int × Value)) (h':Heap),l.toList.Perm es.toList→Heap.SameBut f s.heap h'→ISet prog w h' f Sf nf→Q l { s with heap:=h' }):wpAny (model prog w) A (setWalkUnseen a others (some f)) Q E s:=by
 obtain ⟨o,ho,hex,hd⟩:=id hs.ex
 unfold setWalkUnseen
 refine wpAny_bind (m:=setState a) (wpAny_setState_of ho hd hs.fits ?_)
 dsimp only
 refine wpAny_bind (m:=setsByText) (wpAny_bind (m:=ask) (wpAny_askSetting (wpAny_pure ?_)))
 dsimp only
 have same:∀ l:Array (Int × Value),l.toList.Perm es.toList→Q l s:=fun l hl=>h l s.heap hl (Heap.SameBut.refl _ _) hf
 refine wpAny_ite_split (fun hc=>walk_plain hs ?_ same) (fun hc=>?_)
 ·simp at hc
  rcases hc with (z | z) | z
  ·exact .inl z
  ·exact .inr (.inl z)
  ·exact .inr (.inr z)
 refine wpAny_bind (quiet_ints hq ?_)
 refine wpAny_ite_false (by rfl) ?_
 refine wpAny_bind (wpAny_rule ?_)
 obtain ⟨of,ef,epf,tf,hof,hexf,hdf,helf,hmf,hbf,hff,hnf⟩:=id hf
 refine wpAny_bind (m:=setState f) (wpAny_setState_of hof hdf hff ?_)
 dsimp only
 refine wpAny_ite_split (fun _=>?_) (fun _=>wpAny_pure (same es (.refl _)))
 refine wpAny_bind (wpAny_storeSet_of hof hdf ?_ (fits_of_scanBound hbf))
 have st:=SetOf_store (knd:=intKind prog w) (S':=Sf) (es':=ef) (t':={ tf with led:=tf.led && t.led,plain:=tf.plain && t.plain }) hof hexf hdf helf hmf hbf hff
 subst hnf
 exact wpAny_pure (h es _ (.refl _) (Heap.SameBut.update s.heap f _) st.2)
end
end L2
namespace L2
open PySem PySem.Spec PyProof.Rows XL PySem.Calls PySem.W
section
variable {prog:Program} {w:World} {A:Around} {E:Value→Shared→Prop} {s:Shared}
theorem q9v {h h':Heap} {a:Addr} {S n} (x:ISet prog w h a S n) (e:∀ o,h.get? a=some o→h'.get? a=some o):ISet prog w h' a S n:=by
 obtain ⟨o,es,ep,t,ho,r⟩:=x
 exact ⟨o,es,ep,t,e _ ho,r⟩
theorem q46 {a:Addr} {S n} (x:ISet prog w s.heap a S n):s.TypeIs (.ref a) "set" := by
 obtain ⟨o,es,ep,t,ho,hc,r⟩:=x
 exact ⟨o,ho,hc.1⟩
theorem iset_lt {h:Heap} {a:Addr} {S n} (x:ISet prog w h a S n):a < h.objs.size:=by
 obtain ⟨o,es,ep,t,ho,hc,r⟩:=x
 exact Heap.lt_size ho
theorem q73 {h:Heap} {a:Addr} {S S':Int→Bool} {n} (x:ISet prog w h a S n) (e:∀ k,S' k=S k):ISet prog w h a S' n:=by
 have:S'=S:=funext e
 rw [this]
 exact x
theorem q9e {nm:String} {q k r:Addr} {Sq Sk:Int→Bool} {nq nk:Nat} {Q:Unit→Shared→Prop} (hqr:q≠r) (hkr:k≠r) (hq:ISet prog w s.heap q Sq nq) (hk:ISet prog w s.heap k Sk nk) (hr:ISet prog w s.heap r (fun _=>false) 0)
  (h:∀ (h':Heap) (m:Nat),Heap.SameBut r s.heap h'→ISet prog w h' r (fun i=>Sq i && Sk i) m→Q () { s with heap:=h' }) :
  wpAny (model prog w) A (do
   let was ← setEpoch k
   let __do_lift ← setWalkUnseen k [q,r] (some r)
   forIn __do_lift PUnit.unit fun x __s=>
     match x with
     | (h,x)=>do
      holding [x] do
        let __do_lift ← setFind q x h
        if __do_lift.isSome=true then do
          let _ ← setAddHashed r x h
          pure ()
         else pure ()
      Builtin.Frozenset.unchanged nm k was
      pure (ForInStep.yield PUnit.unit)
   pure ()) Q E s:=by
 obtain ⟨ok,ek,epk,tk,hok,hexk,hdk,helk,hmk,hbk,hfk,hnk⟩:=id hk
 refine wpAny_bind (m:=setEpoch k) (wpAny_bind (m:=setState k) (wpAny_setState_of hok hdk hfk (wpAny_pure ?_)))
 refine wpAny_bind (q9x (prog:=prog) (w:=w) (s:=s) ⟨⟨ok,hok,hexk,hdk⟩,hfk⟩ ?_ hr fun l h1 hl hsb1 hr1=>?_)
 ·intro b hb
  simp at hb
  rcases hb with rfl | rfl | rfl
  ·exact ⟨_,_,hk⟩
  ·exact ⟨_,_,hq⟩
  ·exact ⟨_,_,hr⟩
 have hlen:l.size=ek.size:=by
  have:=hl.length_eq
  simpa using this
 refine wpAny_bind (forIn_array_ _ (fun rest _ s1=>∃ h2 S m,s1={ s with heap:=h2 }∧Heap.SameBut r s.heap h2∧ISet prog w h2 r S m∧m+rest.length≤ek.size∧(∀ e∈rest,e∈ek.toList)∧(∀ i,S i=true→Sq i=true∧Sk i=true)∧∀ i,Sq i=true→Sk i=true→S i=true∨∃ e∈rest,(intKind prog w).is i e.2=true) _ ?_ ?_ l _ ⟨h1,_,0,rfl,hsb1,hr1,?_,fun e he=>hl.mem_iff.mp he,fun i z=>by simp at z,fun i z1 z2=>.inr ?_⟩)
 ·rintro ⟨hh,v⟩ rest u s1 ⟨h2,S,m,rfl,hsb,hS,hm,hin,h5,h6⟩
  dsimp only
  obtain ⟨⟨i,hi,hhash⟩,hsc⟩:=helk (hh,v) (hin _ List.mem_cons_self)
  dsimp only at hi hhash hsc
  subst hhash
  have hSk:Sk i=true:=(hmk i).mpr ⟨_,hin _ List.mem_cons_self,hi⟩
  have hq2:ISet prog w h2 q Sq nq:=q9v hq fun o e=>hsb.extBut q o hqr e
  have hend:∀ (h3:Heap) (S3:Int→Bool) (m3:Nat),Heap.SameBut r s.heap h3→ISet prog w h3 r S3 m3→m3+rest.length≤ek.size→(∀ i,S3 i=true→Sq i=true∧Sk i=true)→(∀ i,Sq i=true→Sk i=true→S3 i=true∨∃ e∈rest,(intKind prog w).is i e.2=true)→
    wpAny (model prog w) A (do Builtin.Frozenset.unchanged nm k epk;pure (ForInStep.yield PUnit.unit)) (fun rr s'=>∃ u,rr=.yield u∧∃ h2 S m,s'={ s with heap:=h2 }∧Heap.SameBut r s.heap h2∧ISet prog w h2 r S m∧m+rest.length≤ek.size∧(∀ e∈rest,e∈ek.toList)∧(∀ i,S i=true→Sq i=true∧Sk i=true)∧∀ i,Sq i=true→Sk i=true→S i=true∨∃ e∈rest,(intKind prog w).is i e.2=true) E { s with heap:=h3 }:=fun h3 S3 m3 a1 a2 a3 a4 a5=>by
   have hk3:h3.get? k=some ok:=a1.extBut k ok hkr hok
   refine wpAny_bind (m:=Builtin.Frozenset.unchanged nm k epk) (wpAny_bind (m:=setEpoch k) (wpAny_bind (m:=setState k) (wpAny_setState_of (s:={ s with heap:=h3 }) hk3 hdk hfk (wpAny_pure ?_))))
   refine wpAny_ite_false (by simp) (wpAny_pure ?_)
   exact wpAny_pure ⟨_,rfl,h3,S3,m3,rfl,a1,a2,a3,fun e he=>hin e (List.mem_cons_of_mem _ he),a4,a5⟩
  have hlm:m+(rest.length+1)≤ek.size:=hm
  refine wpAny_bind (wpAny_holding (wpAny_bind (wpAny_setFind_of (s:={ s with heap:=h2 }) hi hsc hq2 fun rr hrr=>?_)))
  by_cases hqi:Sq i=true
  ·refine wpAny_ite_true (by rw [hrr,hqi];rfl) ?_
   refine wpAny_bind (wpAny_setAddHashed_of (s:={ s with heap:=h2 }) hi hsc hS (by omega) fun h3 hsb3 hS3=>wpAny_pure ?_)
   refine thn (hend h3 _ _ (hsb.trans hsb3) hS3 (by split <;> omega) (fun j hj=>?_) fun j z1 z2=>?_) (by rintro rr s' ⟨u,rfl,z⟩;exact z)
   ·rcases Bool.or_eq_true_iff.mp hj with z | z
    ·exact h5 j z
    ·have:j=i:=of_decide_eq_true z
     subst this
     exact ⟨hqi,hSk⟩
   ·rcases h6 j z1 z2 with z | ⟨e,he,z⟩
    ·exact .inl (by rw [z];rfl)
    ·rcases List.mem_cons.mp he with y | y
     ·subst y
      obtain ⟨t1,e1⟩:=q2k (prog:=prog) (w:=w) hi
      obtain ⟨t2,e2⟩:=q2k (prog:=prog) (w:=w) z
      dsimp only at e2
      rw [e1] at e2
      injection e2 with e3
      subst e3
      exact .inl (by simp)
     ·exact .inr ⟨e,y,z⟩
  ·refine wpAny_ite_false (by rw [hrr];simp at hqi;rw [hqi];rfl) (wpAny_pure ?_)
   refine thn (hend h2 _ _ hsb hS (by omega) h5 fun j z1 z2=>?_) (by rintro rr s' ⟨u,rfl,z⟩;exact z)
   rcases h6 j z1 z2 with z | ⟨e,he,z⟩
   ·exact .inl z
   ·rcases List.mem_cons.mp he with y | y
    ·subst y
     obtain ⟨t1,e1⟩:=q2k (prog:=prog) (w:=w) hi
     obtain ⟨t2,e2⟩:=q2k (prog:=prog) (w:=w) z
     dsimp only at e2
     rw [e1] at e2
     injection e2 with e3
     subst e3
     exact absurd z1 hqi
    ·exact .inr ⟨e,y,z⟩
 ·rintro u s1 ⟨h2,S,m,rfl,hsb,hS,hm,hin,h5,h6⟩
  refine wpAny_pure (h h2 m hsb (q73 hS fun i=>?_))
  rw [Bool.eq_iff_iff,Bool.and_eq_true]
  constructor
  ·rintro ⟨z1,z2⟩
   rcases h6 i z1 z2 with z | ⟨e,he,z⟩
   ·exact z
   ·cases he
  ·exact h5 i
 ·rw [Array.length_toList]
  omega
 ·obtain ⟨e,he,z⟩:=(hmk i).mp z2
  exact ⟨e,hl.mem_iff.mpr he,z⟩
theorem meet {nm:String} {a b:Addr} {S1 S2:Int→Bool} {n1 n2:Nat} {Q:Value→Shared→Prop} (hne:a≠b) (ha:ISet prog w s.heap a S1 n1) (hb:ISet prog w s.heap b S2 n2)
  (h:∀ (h':Heap) (m:Nat),(∀ c o,s.heap.get? c=some o→h'.get? c=some o)→ISet prog w h' s.heap.objs.size (fun k=>S1 k && S2 k) m→Q (.ref s.heap.objs.size) { s with heap:=h' }) :
  wpAny (model prog w) A (Builtin.Frozenset.intersection nm a (.ref b)) Q E s:=by
 unfold Builtin.Frozenset.intersection
 refine wpAny_ite_false (by simp [Ne.symm hne]) ?_
 refine wpAny_bind (m:=Builtin.Frozenset.baseOf a) (wpAny_bind (wpAny_isInstance (q46 ha) sub_set_self (wpAny_pure ?_)))
 refine wpAny_bind (m:=newSet _) (new_led ?_)
 refine wpAny_bind (m:=Builtin.Frozenset.addrOf _) (wpAny_pure ?_)
 obtain ⟨hp,ehp⟩:∃ hp,s.heap.push { cls:=Value.type "set",data:=Data.set #[] 0 (SetTable.fresh 0 0 (q2t w)) }=hp:=⟨_,rfl⟩
 have hR:ISet prog w hp s.heap.objs.size (fun _=>false) 0:=by
  subst ehp
  refine ⟨_,#[],0,_,Heap.get?_push_size _ rfl,⟨rfl,rfl,rfl⟩,rfl,fun e he=>by simp at he,fun k=>by simp,by decide,rfl,rfl⟩
 have old:∀ c o,s.heap.get? c=some o→hp.get? c=some o:=fun c o e=>by
  subst ehp
  exact Heap.get?_push_of_some _ e
 rw [ehp]
 have ha':=q9v ha (old a)
 have hb':=q9v hb (old b)
 have ra:a≠s.heap.objs.size:=Nat.ne_of_lt (iset_lt ha)
 have rb:b≠s.heap.objs.size:=Nat.ne_of_lt (iset_lt hb)
 refine wpAny_bind (wpAny_holding ?_)
 refine wpAny_bind (m:=Builtin.Frozenset.isAnySet _) ?_
 refine wpAny_bind (wpAny_isInstance (s:={ s with heap:=hp }) (q46 (s:={ s with heap:=hp }) hb') sub_set_self ?_)
 refine wpAny_pure ?_
 refine wpAny_ite_true (by rfl) ?_
 refine wpAny_bind (m:=Builtin.Frozenset.addrOf _) (wpAny_pure ?_)
 obtain ⟨oa,ea,epa,ta,hoa,hexa,hda,hela,hma,hba,hfa,hna⟩:=id ha'
 obtain ⟨ob,eb,epb,tb,hob,hexb,hdb,helb,hmb,hbb,hfb,hnb⟩:=id hb'
 refine wpAny_bind (m:=Builtin.Frozenset.sizeOf _) (wpAny_bind (wpAny_setEntries_of hob hdb hfb (wpAny_pure ?_)))
 refine wpAny_bind (m:=Builtin.Frozenset.sizeOf _) (wpAny_bind (wpAny_setEntries_of hoa hda hfa (wpAny_pure ?_)))
 have fin:∀ (h':Heap) (m:Nat),Heap.SameBut s.heap.objs.size hp h'→ISet prog w h' s.heap.objs.size (fun k=>S1 k && S2 k) m→wpAny (model prog w) A (pure (Value.ref s.heap.objs.size)) Q E { s with heap:=h' }:=fun h' m z1 z2=>wpAny_pure (h h' m (fun c o e=>z1.extBut c o (Nat.ne_of_lt (Heap.lt_size e)) (old c o e)) z2)
 by_cases hc:eb.size > ea.size
 ·rw [if_pos hc]
  refine q9e (s:={ s with heap:=hp }) rb ra hb' ha' hR fun h' m z1 z2=>?_
  exact fin h' m z1 (q73 z2 fun k=>Bool.and_comm _ _)
 ·rw [if_neg hc]
  refine q9e (s:={ s with heap:=hp }) ra rb ha' hb' hR fun h' m z1 z2=>?_
  exact fin h' m z1 z2
end
end L2
namespace L2
open PySem PySem.Spec PyProof.Rows XL PySem.Calls PySem.W
theorem q75:entryFor table "set.__and__" = some Builtin.«frozenset.__and__»:=
 entryFor_alias (id' := "frozenset.__and__") (by kernel_rfl) rfl (by decide +kernel) (by kernel_rfl)
theorem iset_none {prog:Program} {w:World} {h:Heap} {a:Addr} {S:Int→Bool} {m:Nat} (x:ISet prog w h a S m):(m=0↔∀ k,S k=false)∧m < scanBound:=by
 obtain ⟨o,es,ep,t,ho,hc,hd,hel,hm,hb,hf,hn⟩:=x
 refine ⟨⟨fun z k=>?_,fun z=>?_⟩,by omega⟩
 ·rcases hk:S k with _ | _
  ·rfl
  ·obtain ⟨e,he,_⟩:=(hm k).mp hk
   have h0:es.toList.length=0:=by rw [Array.length_toList];omega
   rw [List.eq_nil_of_length_eq_zero h0] at he
   cases he
 ·rcases Nat.eq_zero_or_pos m with y | y
  ·exact y
  ·have hl:0 < es.toList.length:=by rw [Array.length_toList];omega
   obtain ⟨⟨k,hk,_⟩,_⟩:=hel es.toList[0] (List.getElem_mem hl)
   have:=(hm k).mpr ⟨_,List.getElem_mem hl,hk⟩
   rw [z k] at this
   cases this
def rAnd:R2:=fun x y H Q=>∃ (a b:Addr) (S1 S2:Int→Bool) (n1 n2:Nat),x=.ref a∧y=.ref b∧a≠b∧H a=some (.set S1 n1)∧H b=some (.set S2 n2)∧
 ∀ (d:Addr) (m:Nat),H d=none→(m=0↔∀ k,(S1 k && S2 k)=false)→m < scanBound→Q (.ref d) (upd H d (.set (fun k=>S1 k && S2 k) m))
theorem op_andSet {X:Cx}:OpR X (binaryOp .BitAnd) rAnd:=by
 rintro pins s σ H x y v u Q I rx ry ⟨a,b,S1,S2,n1,n2,rfl,rfl,hne,ha,hb,q⟩
 cases rx
 cases ry
 have hA:ISet X.prog X.w s.heap a S1 n1:=I.hok a _ ha
 have hB:ISet X.prog X.w s.heap b S2 n2:=I.hok b _ hb
 refine wpAny_binaryOp_same (q46 hA) (q46 hB) F.fills_set_and F.slot_set_and (wpAny_call_entry F.slot_set_and (q46 hA) q75 ?_ (F.args_set_and_2 _ _))
 unfold Builtin.«frozenset.__and__»
 refine wpAny_bind (m:=Builtin.Frozenset.slot1 "__and__" _) ?_
 refine wpAny_bind (m:=slotArgs "__and__" 1 _) (wpAny_pure ?_)
 refine wpAny_pure ?_
 dsimp only
 refine wpAny_bind (Q:=fun _ s'=>_) ?_
 refine wpAny_bind (m:=Builtin.Frozenset.isAnySet (.ref a)) (wpAny_bind (m:=isInstance _ _) (wpAny_isInstance (q46 hA) sub_set_self (wpAny_pure ?_)))
 refine wpAny_bind (m:=isInstance (.ref b) (.type "set")) (wpAny_isInstance (q46 hB) sub_set_self (wpAny_pure ?_))
 refine wpAny_ite_false (by rfl) ?_
 refine wpAny_bind (m:=Builtin.Frozenset.addrOf (.ref a)) (wpAny_pure ?_)
 refine wpAny_bind (m:=Builtin.Frozenset.intersection _ a (.ref b)) (meet hne hA hB fun h' m hk hS=>?_)
 obtain ⟨z0,z1⟩:=iset_none hS
 exact wpAny_pure ⟨_,rfl,by simp,.ref s.heap.objs.size,_,I.laid (t':=s.toks) (o:=.set (fun k=>S1 k && S2 k) m) hk (Nat.le_refl _) hS,rfl,q _ m I.fresh z0 z1⟩
end L2
namespace L2
open PySem PySem.Spec PyProof.Rows XL PySem.Calls PySem.W
def rExtendT (K:List (Addr × Obj)):V→List V→Hp→VK→Prop:=fun x vs H Q=>∃ l b xs zs,x=.ref l∧vs=[.ref b]∧H l=some (.lst xs)∧SqT K H b zs∧xs.length+zs.length≤sizeLine∧Q .non (upd H l (.lst (xs++zs)))
theorem mt_extendT {X:Cx}:MtM X "list.extend" (rExtendT X.K):=by
 intro pins s σ H x vs v us Q I rx rv h
 obtain ⟨l,b,xs,zs,rfl,rfl,hH,hB,hz,q⟩:=h
 cases rx
 obtain ⟨u,rfl,ru⟩:=rv.one
 cases ru
 obtain ⟨z,its,n,r,hl,e⟩:=I.lstM hH
 obtain ⟨its2,r2,⟨o2,e2,hc2,n2,d2⟩,z2⟩:=I.tuple hB
 have hl2:=r2.length
 have hsz:its.toArray.size+its2.toArray.size≤sizeLine:=by rw [List.size_toArray,List.size_toArray];omega
 have hlong:¬ (!its.toArray.isEmpty && Builtin.List.listTooLong (its.toArray.size+its2.toArray.size))=true:=by
  rw [z1e hsz,Bool.and_false]
  exact Bool.false_ne_true
 have hlb:l≠b:=fun z=>by
  subst z
  rw [e] at e2
  cases e2
  injection hc2 with z
  exact absurd z (by decide)
 refine wpAny_call_entry F.slot_list_extend ⟨_,e,rfl⟩ F.entry_list_extend ?_ (F.args_list_extend_2 _ _)
 refine wpAny_bind (wpAny_pure ?_)
 show wpAny _ _ (Builtin.List.listExtendWith (.ref l) (.ref b) .none) _ _ s
 unfold Builtin.List.listExtendWith
 refine wpAny_bind (wpAny_typeOf (T := "tuple") ⟨_,e2,hc2⟩ ?_)
 refine wpAny_ite_true (by simp) ?_
 refine wpAny_bind (m:=Builtin.List.listItems (.ref b)) (wpAny_bind (wpAny_seqItems e2 d2 (wpAny_pure ?_)))
 refine wpAny_bind (m:=Builtin.List.listItems (.ref l)) (wpAny_bind (wpAny_seqItems e rfl (wpAny_pure ?_)))
 refine wpAny_ite_false (decide_eq_false hlong) ?_
 refine wpAny_bind (m:=Builtin.List.listUpdate (.ref l) _) ?_
 show wpAny _ _ (updateSeq l (·++its2.toArray)) _ _ s
 refine wpAny_updateSeq e rfl ?_ (by rw [List.size_toArray];omega) (by show (its.toArray++its2.toArray).size≤sizeLine+1;rw [Array.size_append];omega)
 refine wpAny_pure ⟨_,rfl,.non,_,I.lset (t':=s.toks) (its':=its++its2) hH e (by simp) (r.append r2) ?_,rfl,q⟩
 rw [List.length_append]
 omega
end L2
namespace L2
open PySem PySem.Spec PyProof.Rows XL PySem.Calls PySem.W
theorem call_listD {X:Cx} (hc:X.calm=true):q2i X (.type "list") (fun xs H Q=>∃ (a:Addr) (kvs:List (Key × V)) (ns:List Int),xs=[.ref a]∧H a=some (.dK kvs)∧kvs.map (·.1)=ns.map Sum.inl∧ns.length < 4096∧
  ∀ (d:Addr),H d=none→Q (.ref d) (upd H d (.lst (ns.map V.int)))):=by
 intro pins s σ H xs us Q I r h
 obtain ⟨a,kvs,ns,rfl,ha,hk,h64,q⟩:=h
 obtain ⟨u,rfl,ru⟩:=r.one
 cases ru
 obtain ⟨z,lo,vs,rk,hD⟩:=I.hok a _ ha
 obtain ⟨ep,hat⟩:=hD.dictAt
 have hlen:vs.length=ns.length:=by
  have h1:=congrArg List.length hk
  rw [List.length_map,List.length_map] at h1
  have h2:kvs.length=vs.length:=Paired.length rk
  omega
 refine kdl_call (kdl_dict (knd:=q14 X.prog X.w) (kvs:=vs) (ep:=ep) lo) (I.ok.hd hc) hat (by rw [hlen,sizeLine_eq];omega) fun h' tk acc c' hk' hS hacc=>?_
 have hl:acc.toList.length=vs.length:=by rw [Array.length_toList];exact hacc.1
 have hI:IntsAre acc.toList ns:=q33 (P:=X.prog) (w:=X.w) hk rk hl fun i v e=>hacc.2 i v (by rw [← Array.getElem?_toList];exact e)
 refine ⟨.ref s.heap.objs.size,_,I.laid (t':=tk) (fun b o e=>hk' b o e) (Nat.le_refl _) (a:=s.heap.objs.size) (o:=.lst (ns.map V.int)) ⟨?_,acc.toList,c',q7i hI,?_⟩,rfl,q _ I.fresh⟩
 ·rw [List.length_map,sizeLine_eq]
  omega
 ·rw [hS]
end L2
namespace GM
section
variable {E:Int→Int × Int}
inductive Cn (E:Int→Int × Int) (S:Int→Prop) (x:Int):Int→Prop
 | refl:Cn E S x x
 | fwd {b:Int}:Cn E S x (E b).1→S b→Cn E S x (E b).2
 | bwd {b:Int}:Cn E S x (E b).2→S b→Cn E S x (E b).1
theorem Cn.mono {S T:Int→Prop} (h:∀ b,S b→T b) {x y:Int} (c:Cn E S x y):Cn E T x y:=by
 induction c with
 | refl=>exact .refl
 | fwd _ hb ih=>exact .fwd ih (h _ hb)
 | bwd _ hb ih=>exact .bwd ih (h _ hb)
theorem Cn.trans {S:Int→Prop} {x y z:Int} (c:Cn E S x y) (d:Cn E S y z):Cn E S x z:=by
 induction d with
 | refl=>exact c
 | fwd _ hb ih=>exact .fwd ih hb
 | bwd _ hb ih=>exact .bwd ih hb
theorem Cn.edge {S:Int→Prop} {b:Int} (h:S b):Cn E S (E b).1 (E b).2:=.fwd .refl h
theorem Cn.edge' {S:Int→Prop} {b:Int} (h:S b):Cn E S (E b).2 (E b).1:=.bwd .refl h
theorem Cn.symm {S:Int→Prop} {x y:Int} (c:Cn E S x y):Cn E S y x:=by
 induction c with
 | refl=>exact .refl
 | fwd _ hb ih=>exact (Cn.edge' hb).trans ih
 | bwd _ hb ih=>exact (Cn.edge hb).trans ih
theorem Cn.subst {S T:Int→Prop} (h:∀ b,S b→Cn E T (E b).1 (E b).2) {x y:Int} (c:Cn E S x y):Cn E T x y:=by
 induction c with
 | refl=>exact .refl
 | fwd _ hb ih=>exact ih.trans (h _ hb)
 | bwd _ hb ih=>exact ih.trans (h _ hb).symm
theorem Cn.add {S T:Int→Prop} {f:Int} (h:∀ b,T b→S b∨b=f) {x y:Int} (c:Cn E T x y):Cn E S x y∨(Cn E S x (E f).1∧Cn E S (E f).2 y)∨(Cn E S x (E f).2∧Cn E S (E f).1 y):=by
 induction c with
 | refl=>exact .inl .refl
 | @fwd b _ hb ih=>
  rcases h b hb with hs | rfl
  ·rcases ih with ih | ⟨i1,i2⟩ | ⟨i1,i2⟩
   ·exact .inl (.fwd ih hs)
   ·exact .inr (.inl ⟨i1,.fwd i2 hs⟩)
   ·exact .inr (.inr ⟨i1,.fwd i2 hs⟩)
  ·rcases ih with ih | ⟨i1,i2⟩ | ⟨i1,i2⟩
   ·exact .inr (.inl ⟨ih,.refl⟩)
   ·exact .inr (.inl ⟨i1,.refl⟩)
   ·exact .inl i1
 | @bwd b _ hb ih=>
  rcases h b hb with hs | rfl
  ·rcases ih with ih | ⟨i1,i2⟩ | ⟨i1,i2⟩
   ·exact .inl (.bwd ih hs)
   ·exact .inr (.inl ⟨i1,.bwd i2 hs⟩)
   ·exact .inr (.inr ⟨i1,.bwd i2 hs⟩)
  ·rcases ih with ih | ⟨i1,i2⟩ | ⟨i1,i2⟩
   ·exact .inr (.inr ⟨ih,.refl⟩)
   ·exact .inl i1
   ·exact .inr (.inr ⟨i1,.refl⟩)
def rem (S:Int→Prop) (f:Int):Int→Prop:=fun b=>S b∧b≠f
def Forest (E:Int→Int × Int) (S:Int→Prop):Prop:=∀ b,S b→¬ Cn E (rem S b) (E b).1 (E b).2
theorem Forest.mono {S T:Int→Prop} (h:∀ b,T b→S b) (f:Forest E S):Forest E T:=fun b hb c=>f b (h b hb) (c.mono fun x hx=>⟨h x hx.1,hx.2⟩)
theorem Forest.add {S T:Int→Prop} {f:Int} (F:Forest E S) (h:∀ b,T b→S b∨b=f) (hf:¬ Cn E S (E f).1 (E f).2):Forest E T:=by
 intro b hb c
 by_cases e:b=f
 ·subst e
  exact hf (c.mono fun x hx=>(h x hx.1).resolve_right hx.2)
 ·have hbs:=(h b hb).resolve_right e
  have h2:∀ x,rem T b x→rem S b x∨x=f:=fun x hx=>(h x hx.1).imp (fun z=>⟨z,hx.2⟩) id
  have up:∀ {u v:Int},Cn E (rem S b) u v→Cn E S u v:=fun c=>c.mono fun x hx=>hx.1
  rcases Cn.add h2 c with c | ⟨c1,c2⟩ | ⟨c1,c2⟩
  ·exact F b hbs c
  ·exact hf ((up c1).symm.trans ((Cn.edge hbs).trans (up c2).symm))
  ·exact hf ((up c2).trans ((Cn.edge' hbs).trans (up c1)))
theorem Forest.two {G:Int→Prop} (F:Forest E G) {e f x y:Int} (c1:Cn E (rem G e) x y) (c2:Cn E (rem G f) x y):Cn E (rem (rem G e) f) x y:=by
 by_cases ef:e=f
 ·subst ef
  exact c1.mono fun b hb=>⟨hb,hb.2⟩
 by_cases gf:G f
 rotate_left
 ·exact c1.mono fun b hb=>⟨hb,fun q=>gf (q ▸ hb.1)⟩
 refine Classical.byContradiction fun no=>?_
 have h1:∀ b,rem G e b→rem (rem G e) f b∨b=f:=fun b hb=>(Classical.em (b=f)).elim .inr fun n=>.inl ⟨hb,n⟩
 have h2:∀ b,rem G f b→rem (rem G e) f b∨b=e:=fun b hb=>(Classical.em (b=e)).elim .inr fun n=>.inl ⟨⟨hb.1,n⟩,hb.2⟩
 have up:∀ {u v:Int},Cn E (rem (rem G e) f) u v→Cn E (rem G f) u v:=fun c=>c.mono fun b hb=>⟨hb.1.1,hb.2⟩
 have c3:=(c2:Cn E (rem G f) x y)
 rcases Cn.add h1 c1 with c | ⟨a1,a2⟩ | ⟨a1,a2⟩
 ·exact no c
 ·exact F f gf ((up a1).symm.trans (c3.trans (up a2).symm))
 ·exact F f gf ((up a2).trans (c3.symm.trans (up a1)))
inductive Pa (E:Int→Int × Int) (S:Int→Prop):Int→List (Int × Int)→Int→Prop
 | nil {y:Int}:Pa E S y [] y
 | cons {x z y b:Int} {tl:List (Int × Int)}:S b→(E b=(x,z)∨E b=(z,x))→Pa E S z tl y→Pa E S x ((b,z)::tl) y
theorem Pa.ends {S:Int→Prop} {x y:Int} {tl:List (Int × Int)} (h:Pa E S x tl y):∀ b∈tl.map (·.1),(E b).1∈x::tl.map (·.2)∧(E b).2∈x::tl.map (·.2):=by
 induction h with
 | nil=>intro b hb;simp at hb
 | @cons x z y b tl hs he _ ih=>
  intro c hc
  rw [List.map_cons] at hc
  rcases List.mem_cons.mp hc with e | e
  ·subst e
   rcases he with he | he <;> rw [he] <;> simp
  ·obtain ⟨i1,i2⟩:=ih c e
   exact ⟨List.mem_cons_of_mem _ i1,List.mem_cons_of_mem _ i2⟩
theorem Pa.cn {S:Int→Prop} {x y:Int} {tl:List (Int × Int)} (h:Pa E S x tl y):Cn E (fun b=>S b∧b∈tl.map (·.1)) x y:=by
 induction h with
 | nil=>exact .refl
 | @cons x z y b tl hs he _ ih=>
  refine Cn.trans (y:=z) ?_ (ih.mono fun c hc=>⟨hc.1,List.mem_cons_of_mem _ hc.2⟩)
  have hb:(fun c=>S c∧c∈((b,z)::tl).map (·.1)) b:=⟨hs,List.mem_cons_self ..⟩
  rcases he with he | he
  ·have:=Cn.edge (E:=E) (S:=fun c=>S c∧c∈((b,z)::tl).map (·.1)) hb
   rw [he] at this
   exact this
  ·have:=Cn.edge' (E:=E) (S:=fun c=>S c∧c∈((b,z)::tl).map (·.1)) hb
   rw [he] at this
   exact this
theorem Pa.on {S:Int→Prop} {x y:Int} {tl:List (Int × Int)} (h:Pa E S x tl y):∀ z∈x::tl.map (·.2),Cn E (fun b=>S b∧b∈tl.map (·.1)) x z:=by
 induction h with
 | nil=>intro z hz;simp at hz;rw [hz];exact .refl
 | @cons x z y b tl hs he _ ih=>
  intro u hu
  rcases List.mem_cons.mp hu with e | e
  ·rw [e]
   exact .refl
  ·refine Cn.trans (y:=z) ?_ ((ih u e).mono fun c hc=>⟨hc.1,List.mem_cons_of_mem _ hc.2⟩)
   have hb:(fun c=>S c∧c∈((b,z)::tl).map (·.1)) b:=⟨hs,List.mem_cons_self ..⟩
   rcases he with he | he
   ·have:=Cn.edge (E:=E) (S:=fun c=>S c∧c∈((b,z)::tl).map (·.1)) hb
    rw [he] at this
    exact this
   ·have:=Cn.edge' (E:=E) (S:=fun c=>S c∧c∈((b,z)::tl).map (·.1)) hb
    rw [he] at this
    exact this
theorem Pa.only {S:Int→Prop} (F:Forest E S) {x y:Int} {tl:List (Int × Int)} (h:Pa E S x tl y) (nd:(x::tl.map (·.2)).Nodup):∀ m∈tl.map (·.1),S m∧¬ Cn E (rem S m) x y:=by
 induction h with
 | nil=>intro b hb;simp at hb
 | @cons x z y b tl hs he h ih=>
  intro m hm
  have nd2:(z::tl.map (·.2)).Nodup:=(List.nodup_cons.mp nd).2
  have nx:x ∉ z::tl.map (·.2):=(List.nodup_cons.mp nd).1
  have nb:b ∉ tl.map (·.1):=fun hb=>by
   obtain ⟨e1,e2⟩:=h.ends b hb
   rcases he with he | he
   ·rw [he] at e1;exact nx e1
   ·rw [he] at e2;exact nx e2
  rw [List.map_cons] at hm
  rcases List.mem_cons.mp hm with e | e
  ·subst e
   refine ⟨hs,fun c=>?_⟩
   have t:Cn E (rem S m) z y:=h.cn.mono fun c hc=>⟨hc.1,fun q=>nb (q ▸ hc.2)⟩
   have t2:=c.trans t.symm
   rcases he with he | he
   ·exact F m hs (by rw [he];exact t2)
   ·exact F m hs (by rw [he];exact t2.symm)
  ·obtain ⟨i1,i2⟩:=ih nd2 m e
   refine ⟨i1,fun c=>i2 (Cn.trans (y:=x) ?_ c)⟩
   have hb:rem S m b:=⟨hs,fun q=>nb (q ▸ e)⟩
   rcases he with he | he
   ·have:=Cn.edge' (E:=E) hb
    rw [he] at this
    exact this
   ·have:=Cn.edge (E:=E) hb
    rw [he] at this
    exact this
theorem Pa.last {S:Int→Prop} {z y:Int} {tl:List (Int × Int)} (h:Pa E S z tl y):y∈z::tl.map (·.2):=by
 induction h with
 | nil=>simp
 | cons _ _ _ ih=>exact List.mem_cons_of_mem _ ih
theorem Pa.unique {S:Int→Prop} (F:Forest E S) {x y:Int} {t1:List (Int × Int)} (h1:Pa E S x t1 y):∀ {t2:List (Int × Int)},Pa E S x t2 y→(x::t1.map (·.2)).Nodup→(x::t2.map (·.2)).Nodup→t1=t2:=by
 induction h1 with
 | @nil y=>
  intro t2 h2 _ n2
  cases h2 with
  | nil=>rfl
  | @cons _ z _ b tl hs he h=>
   exfalso
   exact (List.nodup_cons.mp n2).1 h.last
 | @cons x z y b tl hs he h ih=>
  intro t2 h2 n1 n2
  cases h2 with
  | nil=>
   exfalso
   exact (List.nodup_cons.mp n1).1 h.last
  | @cons _ z2 _ b2 tl2 hs2 he2 h2=>
   have nx1:=(List.nodup_cons.mp n1).1
   have nx2:=(List.nodup_cons.mp n2).1
   have eb:b=b2:=Classical.byContradiction fun ne=>by
    have o1:=(Pa.only F (.cons hs he h) n1 b (by simp)).2
    have nb:b ∉ ((b2,z2)::tl2).map (·.1):=fun hb=>by
     rw [List.map_cons] at hb
     rcases List.mem_cons.mp hb with q | q
     ·exact ne q
     ·obtain ⟨e1,e2⟩:=h2.ends b q
      rcases he with he | he
      ·rw [he] at e1;exact nx2 e1
      ·rw [he] at e2;exact nx2 e2
    exact o1 ((Pa.cons hs2 he2 h2).cn.mono fun c hc=>⟨hc.1,fun q=>nb (q ▸ hc.2)⟩)
   subst eb
   have ez:z=z2:=by
    rcases he with he | he <;> rcases he2 with he2 | he2 <;> rw [he] at he2 <;> cases he2 <;> rfl
   subst ez
   rw [ih h2 (List.nodup_cons.mp n1).2 (List.nodup_cons.mp n2).2]
def Fc (cof:Int→Option Nat) (c:Nat):Int→Prop:=fun b=>cof b=some c
def put1 (cof:Int→Option Nat) (b:Int) (c:Nat):Int→Option Nat:=fun x=>if x=b then some c else cof x
theorem q3u {cof:Int→Option Nat} {b:Int} {c:Nat} {x:Int} (h:x≠b):put1 cof b c x=cof x:=if_neg h
theorem z01 {cof:Int→Option Nat} {b:Int} {c:Nat}:put1 cof b c b=some c:=if_pos rfl
def shf (cof:Int→Option Nat) (c:Nat):List Int→(Int→Option Nat)
 | []=>cof
 | b::r=>shf (put1 cof b c) ((cof b).getD 0) r
structure Aug (E:Int→Int × Int) (n:Nat) (cof:Int→Option Nat) (c:Nat) (row:List Int):Prop where
 fo:∀ c,Forest E (Fc cof c)
 nd:row.Nodup
 hd:∀ b r,row=b::r→¬ Cn E (Fc cof c) (E b).1 (E b).2
 cd:∀ pre x y post,row=pre++x::y::post→(∃ ci,ci < n∧cof x=some ci∧¬ Cn E (rem (Fc cof ci) x) (E y).1 (E y).2)∧∀ c',c' < n→Cn E (fun b=>Fc cof c' b∧b ∉ pre) (E y).1 (E y).2
 last:∀ pre b,row=pre++[b]→cof b=none
theorem q4s {n:Nat}:∀ (row:List Int) {cof:Int→Option Nat} {c:Nat},c < n→Aug E n cof c row→∀ d,Forest E (Fc (shf cof c row) d)
 | [],cof,c,_,A=>A.fo
 | [b],cof,c,_,A=>fun d=>by
  have hb:=A.last [] b rfl
  have hn:=A.hd b [] rfl
  show Forest E (Fc (put1 cof b c) d)
  by_cases e:d=c
  ·subst e
   refine (A.fo d).add (f:=b) (fun x hx=>?_) hn
   by_cases q:x=b
   ·exact .inr q
   ·left
    unfold Fc at hx ⊢
    rwa [q3u q] at hx
  ·refine (A.fo d).mono fun x hx=>?_
   unfold Fc at hx ⊢
   by_cases q:x=b
   ·rw [q,z01] at hx
    exact absurd (Option.some.inj hx).symm e
   ·rwa [q3u q] at hx
 | b::b'::r,cof,c,hc,A=>by
  obtain ⟨⟨ci,hci,hcb,hno⟩,_⟩:=A.cd [] b b' r rfl
  have hn:=A.hd b _ rfl
  have nci:ci≠c:=fun e=>hn (e ▸ Cn.edge (S:=Fc cof ci) hcb)
  have nbF:¬ Fc cof c b:=fun h=>nci (Option.some.inj (hcb.symm.trans h))
  have hnb:=(List.nodup_cons.mp A.nd).1
  have hndr:=(List.nodup_cons.mp A.nd).2
  have F1:∀ d x,Fc (put1 cof b c) d x→Fc cof d x∨x=b:=fun d x hx=>by
   by_cases q:x=b
   ·exact .inr q
   ·left
    unfold Fc at hx ⊢
    rwa [q3u q] at hx
  have F2:∀ d x,d≠c→Fc (put1 cof b c) d x→Fc cof d x∧x≠b:=fun d x hd hx=>by
   unfold Fc at hx ⊢
   by_cases q:x=b
   ·rw [q,z01] at hx
    exact absurd (Option.some.inj hx).symm hd
   ·rw [q3u q] at hx
    exact ⟨hx,q⟩
  have F3:∀ d x,Fc cof d x→x≠b→Fc (put1 cof b c) d x:=fun d x hx q=>by
   unfold Fc at hx ⊢
   rw [q3u q]
   exact hx
  have fo':∀ d,Forest E (Fc (put1 cof b c) d):=fun d=>by
   by_cases e:d=c
   ·subst e
    exact (A.fo d).add (F1 d) hn
   ·exact (A.fo d).mono fun x hx=>(F2 d x e hx).1
  have A':Aug E n (put1 cof b c) ci (b'::r):=by
   refine ⟨fo',hndr,fun x q e=>?_,fun pre x y post e=>?_,fun pre x e=>?_⟩
   ·cases e
    exact fun z=>hno (z.mono fun x hx=>F2 ci x nci hx)
   ·have hx:x∈b'::r:=by rw [e];simp
    have nxb:x≠b:=fun q=>hnb (q ▸ hx)
    obtain ⟨⟨cx,hcx,hcof,hnox⟩,hall⟩:=A.cd (b::pre) x y post (by rw [e];rfl)
    refine ⟨⟨cx,hcx,by rw [q3u nxb];exact hcof,fun z=>?_⟩,fun c' hc'=>(hall c' hc').mono fun u hu=>⟨F3 c' u hu.1 fun q=>hu.2 (by rw [q];simp),fun q=>hu.2 (List.mem_cons_of_mem _ q)⟩⟩
    by_cases ec:cx=c
    ·subst ec
     have z2:Cn E (rem (Fc (put1 cof b cx) cx) b) (E y).1 (E y).2:=(hall cx hcx).mono fun u hu=>⟨F3 cx u hu.1 fun q=>hu.2 (by rw [q];simp),fun q=>hu.2 (by rw [q];simp)⟩
     have z3:=(fo' cx).two z z2
     exact hnox (z3.mono fun u hu=>⟨(F1 cx u hu.1.1).resolve_right hu.2,hu.1.2⟩)
    ·exact hnox (z.mono fun u hu=>⟨(F2 cx u ec hu.1).1,hu.2⟩)
   ·have hx:x∈b'::r:=by rw [e];simp
    have nxb:x≠b:=fun q=>hnb (q ▸ hx)
    rw [q3u nxb]
    exact A.last (b::pre) x (by rw [e];rfl)
  show ∀ d,Forest E (Fc (shf (put1 cof b c) ((cof b).getD 0) (b'::r)) d)
  rw [hcb]
  exact q4s (b'::r) hci A'
theorem q2y:∀ (row:List Int) {cof:Int→Option Nat} {c:Nat} {x:Int},x ∉ row→shf cof c row x=cof x
 | [],_,_,_,_=>rfl
 | b::r,cof,c,x,h=>by
  show shf _ _ r x=_
  rw [q2y r fun q=>h (List.mem_cons_of_mem _ q)]
  exact if_neg fun q=>h (by rw [q];simp)
theorem shf_in:∀ (row:List Int) {cof:Int→Option Nat} {c:Nat} {x:Int},x∈row→(shf cof c row x).isSome=true
 | b::r,cof,c,x,h=>by
  show (shf _ _ r x).isSome=true
  by_cases q:x∈r
  ·exact shf_in r q
  ·rw [q2y r q]
   have:x=b:=(List.mem_cons.mp h).resolve_right q
   rw [this]
   show (put1 cof b c b).isSome=true
   rw [z01]
   rfl
theorem shf_lt {n:Nat}:∀ (row:List Int) {cof:Int→Option Nat} {c:Nat},c < n→(∀ x k,cof x=some k→k < n)→∀ x k,shf cof c row x=some k→k < n
 | [],_,_,_,h=>h
 | b::r,cof,c,hc,h=>by
  show ∀ x k,shf _ _ r x=some k→k < n
  refine shf_lt r ?_ fun x k=>?_
  ·cases e:cof b with
   | none=>exact Nat.lt_of_le_of_lt (Nat.zero_le _) hc
   | some k=>exact h b k e
  ·show (if x=b then some c else cof x)=some k→k < n
   split
   ·intro q;cases q;exact hc
   ·exact h x k
end
end GM
namespace GM
abbrev PSt:=List (Int × Option Int)
def scan1 (b:Int) (st:PSt) (m:Int):PSt:=if m∈st.map (·.1) then st else st++[(m,some b)]
def scan (b:Int) (st:PSt) (ms:List Int):PSt:=ms.foldl (scan1 b) st
theorem scan_snoc {b:Int} {st:PSt} {ms:List Int} {m:Int}:scan b st (ms++[m])=scan1 b (scan b st ms) m:=by
 unfold scan
 rw [List.foldl_append]
 rfl
theorem q9a {b:Int} {st:PSt} {m:Int}:∃ more,scan1 b st m=st++more:=by
 unfold scan1
 split
 ·exact ⟨[],by simp⟩
 ·exact ⟨_,rfl⟩
theorem q53 {b:Int}:∀ (ms:List Int) (st:PSt),∃ more,scan b st ms=st++more
 | [],st=>⟨[],by simp [scan]⟩
 | m::ms,st=>by
  obtain ⟨m1,e1⟩:=q9a (b:=b) (st:=st) (m:=m)
  obtain ⟨m2,e2⟩:=q53 (b:=b) ms (scan1 b st m)
  refine ⟨m1++m2,?_⟩
  show scan b (scan1 b st m) ms=_
  rw [e2,e1,List.append_assoc]
abbrev WR:=Nat→Int→Option (List Int)→Prop
inductive CrewR (W:WR) (b:Int) (n:Nat):Nat→PSt→Option Nat→PSt→Prop
 | done {st:PSt}:CrewR W b n n st none st
 | stop {c:Nat} {st:PSt}:c < n→W c b none→CrewR W b n c st (some c) st
 | go {c:Nat} {st st':PSt} {ms:List Int} {r:Option Nat}:c < n→W c b (some ms)→CrewR W b n (c+1) (scan b st ms) r st'→CrewR W b n c st r st'
inductive RoomR (W:WR) (n:Nat):Nat→PSt→Option (Int × Nat)→PSt→Prop
 | out {pl:Nat} {st:PSt}:st.length≤pl→RoomR W n pl st none st
 | found {pl:Nat} {st st':PSt} {b:Int} {p:Option Int} {c:Nat}:st[pl]?=some (b,p)→CrewR W b n 0 st (some c) st'→RoomR W n pl st (some (b,c)) st'
 | next {pl:Nat} {st st' st'':PSt} {b:Int} {p:Option Int} {r:Option (Int × Nat)}:st[pl]?=some (b,p)→CrewR W b n 0 st none st'→RoomR W n (pl+1) st' r st''→RoomR W n pl st r st''
structure RI (W:WR) (n:Nat) (b0:Int) (pl bd:Nat) (st:PSt):Prop where
 first:st[0]?=some (b0,none)
 nd:(st.map (·.1)).Nodup
 par:∀ (j:Nat) (m b':Int),st[j]?=some (m,some b')→∃ (i:Nat) (p:Option Int) (c:Nat) (ms:List Int),i < j∧i < bd∧st[i]?=some (b',p)∧c < n∧W c b' (some ms)∧m∈ms
 non:∀ (j:Nat) (m:Int),st[j]?=some (m,none)→j=0
 done:∀ (i:Nat),i < pl→∀ (b:Int) (p:Option Int),st[i]?=some (b,p)→∀ c,c < n→∃ ms,W c b (some ms)∧∀ m∈ms,∃ (j:Nat) (par:Option Int),st[j]?=some (m,par)∧∀ b',par=some b'→∃ (i':Nat) (p':Option Int),i'≤i∧st[i']?=some (b',p')
theorem q63 {st more:PSt} {j:Nat} {x:Int × Option Int} (h:st[j]?=some x):(st++more)[j]?=some x:=by
 rw [List.getElem?_append_left (List.getElem?_eq_some_iff.mp h).1]
 exact h
theorem q8z {st:PSt} (nd:(st.map (·.1)).Nodup) {i j:Nat} {x:Int} {p p':Option Int} (hi:st[i]?=some (x,p)) (hj:st[j]?=some (x,p')):i=j:=by
 have h1:(st.map (·.1))[i]?=some x:=by rw [List.getElem?_map,hi];rfl
 have h2:(st.map (·.1))[j]?=some x:=by rw [List.getElem?_map,hj];rfl
 obtain ⟨l1,e1⟩:=List.getElem?_eq_some_iff.mp h1
 obtain ⟨l2,e2⟩:=List.getElem?_eq_some_iff.mp h2
 exact (List.getElem_inj nd).mp (e1.trans e2.symm)
theorem RI.scan1 {W:WR} {n:Nat} {b0:Int} {pl:Nat} {st:PSt} (R:RI W n b0 pl (pl+1) st) {b:Int} {p:Option Int} (hb:st[pl]?=some (b,p)) {c:Nat} {ms:List Int} (hc:c < n) (hw:W c b (some ms)) {m:Int} (hm:m∈ms):RI W n b0 pl (pl+1) (scan1 b st m):=by
 unfold GM.scan1
 split
 ·exact R
 ·rename_i hn
  have hpl:=(List.getElem?_eq_some_iff.mp hb).1
  have lastj:∀ (j:Nat) x,(st++[(m,some b)])[j]?=some x→st[j]?=some x∨(j=st.length∧x=(m,some b)):=fun j x hx=>by
   by_cases hj:j < st.length
   ·rw [List.getElem?_append_left hj] at hx
    exact .inl hx
   ·have hl:=(List.getElem?_eq_some_iff.mp hx).1
    rw [List.length_append,List.length_singleton] at hl
    have:j=st.length:=by omega
    subst this
    rw [List.getElem?_append_right (Nat.le_refl _),Nat.sub_self] at hx
    cases hx
    exact .inr ⟨rfl,rfl⟩
  refine ⟨q63 R.first,?_,fun j x b' hj=>?_,fun j x hj=>?_,fun i hi b' p' hi' c' hc'=>?_⟩
  ·rw [List.map_append]
   refine List.nodup_append.mpr ⟨R.nd,by simp,fun a ha c hc q=>?_⟩
   simp only [List.map_cons,List.map_nil,List.mem_singleton] at hc
   subst hc
   subst q
   exact hn ha
  ·rcases lastj j _ hj with h | ⟨rfl,h⟩
   ·obtain ⟨i,p,c,ms,h1,h2,h3,h4⟩:=R.par j x b' h
    exact ⟨i,p,c,ms,h1,h2,q63 h3,h4⟩
   ·cases h
    exact ⟨pl,p,c,ms,hpl,Nat.lt_succ_self _,q63 hb,hc,hw,hm⟩
  ·rcases lastj j _ hj with h | ⟨rfl,h⟩
   ·exact R.non j x h
   ·cases h
  ·rcases lastj i _ hi' with h | ⟨e,_⟩
   ·obtain ⟨ms',w',hall⟩:=R.done i hi b' p' h c' hc'
    refine ⟨ms',w',fun x hx=>?_⟩
    obtain ⟨j,par,h1,h2⟩:=hall x hx
    refine ⟨j,par,q63 h1,fun y hy=>?_⟩
    obtain ⟨i',p'',h3,h4⟩:=h2 y hy
    exact ⟨i',p'',h3,q63 h4⟩
   ·omega
theorem scan1_mem {b:Int} {st:PSt} {m:Int}:m∈(scan1 b st m).map (·.1):=by
 unfold scan1
 split
 ·assumption
 ·simp
theorem RI.scan {W:WR} {n:Nat} {b0:Int} {pl:Nat} {b:Int} {p:Option Int} {c:Nat} {ms:List Int} (hc:c < n) (hw:W c b (some ms)):∀ (ms':List Int) {st:PSt},(∀ m∈ms',m∈ms)→RI W n b0 pl (pl+1) st→st[pl]?=some (b,p)→RI W n b0 pl (pl+1) (scan b st ms')∧∀ m∈ms',m∈(GM.scan b st ms').map (·.1)
 | [],st,_,R,_=>⟨R,fun m hm=>by simp at hm⟩
 | m::ms',st,hin,R,hb=>by
  have R1:=R.scan1 hb hc hw (hin m (by simp))
  obtain ⟨more,e⟩:=q9a (b:=b) (st:=st) (m:=m)
  have hb1:(GM.scan1 b st m)[pl]?=some (b,p):=by rw [e];exact q63 hb
  obtain ⟨R2,hall⟩:=RI.scan hc hw ms' (fun x hx=>hin x (by simp [hx])) R1 hb1
  refine ⟨R2,fun x hx=>?_⟩
  rcases List.mem_cons.mp hx with q | q
  ·subst q
   obtain ⟨mo2,e2⟩:=q53 (b:=b) ms' (GM.scan1 b st x)
   show x∈(GM.scan b (GM.scan1 b st x) ms').map (·.1)
   rw [e2,List.map_append]
   exact List.mem_append_left _ scan1_mem
  ·exact hall x q
theorem q99 {st:PSt} {m:Int} (h:m∈st.map (·.1)):∃ (j:Nat) (p:Option Int),st[j]?=some (m,p):=by
 obtain ⟨j,hj,e⟩:=List.mem_iff_getElem.mp h
 rw [List.length_map] at hj
 refine ⟨j,st[j].2,?_⟩
 rw [List.getElem?_eq_getElem hj]
 rw [List.getElem_map] at e
 rw [← e]
theorem RI.crews {W:WR} {n:Nat} {b0:Int} {pl:Nat} {b:Int} {p:Option Int} {c:Nat} {st st':PSt} {r:Option Nat} (h:CrewR W b n c st r st'):RI W n b0 pl (pl+1) st→st[pl]?=some (b,p)→(∀ c',c' < c→∃ ms,W c' b (some ms)∧∀ m∈ms,m∈st.map (·.1))→
  st'[pl]?=some (b,p)∧(r=none→RI W n b0 (pl+1) (pl+1) st')∧∀ k,r=some k→RI W n b0 pl (pl+1) st'∧k < n∧W k b none:=by
 induction h with
 | @done st=>
  intro R hb hall
  refine ⟨hb,fun _=>⟨R.first,R.nd,R.par,R.non,fun i hi b' p' hi' c' hc'=>?_⟩,fun k hk=>by cases hk⟩
  by_cases e:i < pl
  ·exact R.done i e b' p' hi' c' hc'
  ·have e:i=pl:=by omega
   subst e
   rw [hb] at hi'
   cases hi'
   obtain ⟨ms,hw,hm⟩:=hall c' hc'
   refine ⟨ms,hw,fun m hm'=>?_⟩
   obtain ⟨j,par,hj⟩:=q99 (hm m hm')
   refine ⟨j,par,hj,fun y hy=>?_⟩
   subst hy
   obtain ⟨i',p'',_,_,h1,h2,h3,_⟩:=R.par j m y hj
   exact ⟨i',p'',by omega,h3⟩
 | @stop c st hc hw=>
  intro R hb hall
  exact ⟨hb,(fun e=>by cases e),fun k hk=>by cases hk;exact ⟨R,hc,hw⟩⟩
 | @go c st st' ms r hc hw _ ih=>
  intro R hb hall
  obtain ⟨R2,hm⟩:=RI.scan hc hw ms (fun _ h=>h) R hb
  obtain ⟨more,e⟩:=q53 (b:=b) ms st
  refine ih R2 (by rw [e];exact q63 hb) fun c' hc'=>?_
  by_cases q:c' < c
  ·obtain ⟨ms',w',h'⟩:=hall c' q
   exact ⟨ms',w',fun m hm'=>by rw [e,List.map_append];exact List.mem_append_left _ (h' m hm')⟩
  ·have:c'=c:=by omega
   subst this
   exact ⟨ms,hw,hm⟩
theorem RI.weak {W:WR} {n:Nat} {b0:Int} {pl:Nat} {st:PSt} (R:RI W n b0 pl pl st):RI W n b0 pl (pl+1) st:=
 ⟨R.first,R.nd,fun j m b' h=>let ⟨i,p,c,ms,h1,h2,h3⟩:=R.par j m b' h;⟨i,p,c,ms,h1,by omega,h3⟩,R.non,R.done⟩
theorem RI.room {W:WR} {n:Nat} {b0:Int} {pl:Nat} {st st':PSt} {r:Option (Int × Nat)} (h:RoomR W n pl st r st'):RI W n b0 pl pl st→
  (r=none→∃ pl',st'.length≤pl'∧RI W n b0 pl' pl' st')∧∀ b c,r=some (b,c)→∃ pl' p,RI W n b0 pl' (pl'+1) st'∧st'[pl']?=some (b,p)∧c < n∧W c b none:=by
 induction h with
 | @out pl st hl=>exact fun R=>⟨fun _=>⟨pl,hl,R⟩,fun b c e=>by cases e⟩
 | @found pl st st' b p c e hc=>
  intro R
  obtain ⟨h1,_,h2⟩:=RI.crews hc R.weak e fun c' h=>absurd h (Nat.not_lt_zero _)
  obtain ⟨h3,h4,h5⟩:=h2 c rfl
  exact ⟨(fun e=>by cases e),fun b' c' e=>by cases e;exact ⟨pl,p,h3,h1,h4,h5⟩⟩
 | @next pl st st' st'' b p r e hc _ ih=>
  intro R
  obtain ⟨h1,h2,_⟩:=RI.crews hc R.weak e fun c' h=>absurd h (Nat.not_lt_zero _)
  exact ih (h2 rfl)
theorem RI.init {W:WR} {n:Nat} {b0:Int}:RI W n b0 0 0 [(b0,none)]:=by
 have one:∀ (j:Nat) x,([(b0,none)]:PSt)[j]?=some x→j=0∧x=(b0,none):=fun j x h=>by
  have:=(List.getElem?_eq_some_iff.mp h).1
  have e:j=0:=by simp at this;omega
  subst e
  cases h
  exact ⟨rfl,rfl⟩
 refine ⟨rfl,by simp,fun j m b' h=>?_,fun j m h=>(one j _ h).1,fun i hi=>absurd hi (Nat.not_lt_zero _)⟩
 have:=(one j _ h).2
 cases this
inductive Rw (st:PSt):Nat→List Int→Prop
 | base {b:Int}:st[0]?=some (b,none)→Rw st 0 [b]
 | step {i j:Nat} {m b':Int} {p:Option Int} {r:List Int}:st[j]?=some (m,some b')→i < j→st[i]?=some (b',p)→Rw st i (b'::r)→Rw st j (m::b'::r)
theorem RI.row {W:WR} {n:Nat} {b0:Int} {pl bd:Nat} {st:PSt} (R:RI W n b0 pl bd st):∀ (j:Nat) (m:Int) (p:Option Int),st[j]?=some (m,p)→∃ r,Rw st j (m::r):=by
 intro j
 induction j using Nat.strongRecOn with
 | _ j ih=>
  intro m p h
  cases p with
  | none=>
   have:=R.non j m h
   subst this
   exact ⟨[],.base h⟩
  | some b'=>
   obtain ⟨i,p,c,ms,h1,h2,h3,_⟩:=R.par j m b' h
   obtain ⟨r,hr⟩:=ih i h1 b' p h3
   exact ⟨_,.step h h1 h3 hr⟩
theorem Rw.ix {st:PSt} {j:Nat} {row:List Int} (h:Rw st j row):∀ z∈row,∃ (i:Nat) (p:Option Int),i≤j∧st[i]?=some (z,p):=by
 induction h with
 | base e=>intro z hz;simp at hz;subst hz;exact ⟨0,none,Nat.le_refl _,e⟩
 | @step i j m b' p r h1 h2 h3 _ ih=>
  intro z hz
  rcases List.mem_cons.mp hz with q | q
  ·subst q
   exact ⟨j,_,Nat.le_refl _,h1⟩
  ·obtain ⟨i',p',a,b⟩:=ih z q
   exact ⟨i',p',by omega,b⟩
theorem Rw.nd {st:PSt} (nd:(st.map (·.1)).Nodup) {j:Nat} {row:List Int} (h:Rw st j row):row.Nodup:=by
 induction h with
 | base e=>simp
 | @step i j m b' p r h1 h2 h3 h ih=>
  refine List.nodup_cons.mpr ⟨fun hm=>?_,ih⟩
  obtain ⟨i',p',a,b⟩:=h.ix m hm
  have:=q8z nd h1 b
  omega
theorem Rw.cd {st:PSt} {j:Nat} {row:List Int} (h:Rw st j row):∀ pre x y post,row=pre++x::y::post→∃ (jx iy:Nat) (p:Option Int),jx≤j∧iy < jx∧st[jx]?=some (x,some y)∧st[iy]?=some (y,p)∧∀ z∈pre,∃ (jz iz:Nat) (z':Int) (pz:Option Int),st[jz]?=some (z,some z')∧st[iz]?=some (z',pz)∧jx≤iz:=by
 induction h with
 | base e=>
  intro pre x y post h
  have:=congrArg List.length h
  simp at this
  omega
 | @step i j m b' p r h1 h2 h3 h ih=>
  intro pre x y post e
  cases pre with
  | nil=>
   cases e
   exact ⟨j,i,p,Nat.le_refl _,h2,h1,h3,fun z hz=>by simp at hz⟩
  | cons z0 pre=>
   rw [List.cons_append] at e
   obtain ⟨e1,e2⟩:=List.cons.inj e
   subst e1
   obtain ⟨jx,iy,p',a1,a2,a3,a4,a5⟩:=ih pre x y post e2
   refine ⟨jx,iy,p',by omega,a2,a3,a4,fun z hz=>?_⟩
   rcases List.mem_cons.mp hz with q | q
   ·subst q
    exact ⟨j,i,b',p,h1,h3,a1⟩
   ·exact a5 z q
theorem Rw.last {st:PSt} {j:Nat} {row:List Int} (h:Rw st j row):∀ pre b,row=pre++[b]→st[0]?=some (b,none):=by
 induction h with
 | base e=>
  intro pre b h
  cases pre with
  | nil=>cases h;exact e
  | cons x pre=>
   have:=congrArg List.length h
   simp at this
 | @step i j m b' p r h1 h2 h3 h ih=>
  intro pre b e
  cases pre with
  | nil=>
   have:=congrArg List.length e
   simp at this
  | cons x pre=>
   rw [List.cons_append] at e
   exact ih pre b (List.cons.inj e).2
section
variable {E:Int→Int × Int}
structure WOk (E:Int→Int × Int) (cof:Int→Option Nat) (W:WR):Prop where
 none:∀ c b,W c b none→¬ Cn E (Fc cof c) (E b).1 (E b).2
 some:∀ c b ms,W c b (some ms)→(∀ m∈ms,Fc cof c m∧¬ Cn E (rem (Fc cof c) m) (E b).1 (E b).2∧Cn E (fun e=>e∈ms) (E b).1 (E m).1)∧Cn E (fun e=>Fc cof c e∧e∈ms) (E b).1 (E b).2
theorem z1y {W:WR} {n:Nat} {b0:Int} {cof:Int→Option Nat} (hW:WOk E cof W) (fo:∀ c,Forest E (Fc cof c)) (h0:cof b0=none) {pl:Nat} {st:PSt} (R:RI W n b0 pl (pl+1) st) {b:Int} {p:Option Int} (hb:st[pl]?=some (b,p)) {c:Nat} (hc:c < n) (hw:W c b none) {row:List Int} (hr:Rw st pl (b::row)):Aug E n cof c (b::row):=by
 refine ⟨fo,hr.nd R.nd,fun x r e=>?_,fun pre x y post e=>?_,fun pre x e=>?_⟩
 ·cases e
  exact hW.none c b hw
 ·obtain ⟨jx,iy,p',a1,a2,a3,a4,a5⟩:=hr.cd pre x y post e
  obtain ⟨i0,p0,ci,ms,_,_,b3,b4,b5,b6⟩:=R.par jx x y a3
  obtain ⟨d1,d2,_⟩:=(hW.some ci y ms b5).1 x b6
  refine ⟨⟨ci,b4,d1,d2⟩,fun c' hc'=>?_⟩
  obtain ⟨ms',w',hall⟩:=R.done iy (by omega) y p' a4 c' hc'
  refine ((hW.some c' y ms' w').2).mono fun z hz=>⟨hz.1,fun hp=>?_⟩
  obtain ⟨j,par,c1,c2⟩:=hall z hz.2
  obtain ⟨jz,iz,z',pz,f1,f2,f3⟩:=a5 z hp
  have ej:=q8z R.nd c1 f1
  subst ej
  rw [c1] at f1
  cases f1
  obtain ⟨i',p'',g1,g2⟩:=c2 z' rfl
  have:=q8z R.nd g2 f2
  omega
 ·have:=hr.last pre x e
  rw [R.first] at this
  cases this
  exact h0
def Hu (E:Int→Int × Int) (n:Nat) (cof:Int→Option Nat) (U:Int→Prop):Prop:=∀ c,c < n→∀ x y,U x→U y→Cn E (fun e=>Fc cof c e∧U (E e).1∧U (E e).2) x y
theorem z0j {n:Nat} {cof:Int→Option Nat} {c:Nat} {row:List Int} (hc:c < n) (A:Aug E n cof c row) {U:Int→Prop} (hU:Hu E n cof U):∀ (pre:List Int) (z:Int) (post:List Int),row=pre++z::post→¬ (U (E z).1∧U (E z).2):=by
 suffices h:∀ (k:Nat) (pre:List Int) (z:Int) (post:List Int),pre.length=k→row=pre++z::post→¬ (U (E z).1∧U (E z).2) from fun pre z post e=>h _ pre z post rfl e
 intro k
 induction k with
 | zero=>
  intro pre z post hl e ⟨u1,u2⟩
  have:pre=[]:=List.eq_nil_of_length_eq_zero hl
  subst this
  exact A.hd z post e ((hU c hc _ _ u1 u2).mono fun x hx=>hx.1)
 | succ k ih=>
  intro pre z post hl e ⟨u1,u2⟩
  obtain ⟨pre',x,rfl⟩:∃ pre' x,pre=pre'++[x]:=by
   refine ⟨pre.dropLast,pre.getLast (fun q=>by simp [q] at hl),?_⟩
   exact (List.dropLast_concat_getLast _).symm
  rw [List.append_assoc] at e
  obtain ⟨⟨ci,hci,_,hno⟩,_⟩:=A.cd pre' x z post e
  refine ih pre' x (z::post) (by simpa using hl) e ?_
  refine Classical.byContradiction fun no=>hno ((hU ci hci _ _ u1 u2).mono fun y hy=>⟨hy.1,fun q=>no (q ▸ hy.2)⟩)
theorem aug_hu {n:Nat} {cof:Int→Option Nat} {c:Nat} {row:List Int} (hc:c < n) (A:Aug E n cof c row) {U:Int→Prop} (hU:Hu E n cof U):Hu E n (shf cof c row) U:=by
 intro d hd x y ux uy
 refine (hU d hd x y ux uy).mono fun e he=>⟨?_,he.2⟩
 have:e ∉ row:=fun q=>by
  obtain ⟨pre,post,eq⟩:=List.append_of_mem q
  exact z0j hc A hU pre e post eq he.2
 unfold Fc
 rw [q2y row this]
 exact he.1
theorem room_hu {W:WR} {n:Nat} {b0:Int} {cof:Int→Option Nat} (hW:WOk E cof W) {pl:Nat} {st:PSt} (R:RI W n b0 pl pl st) (hl:st.length≤pl) {U:Int→Prop} (hU:∀ z,U z↔∃ b∈st.map (·.1),z=(E b).1∨z=(E b).2):Hu E n cof U:=by
 intro c hc
 have closed:∀ b,b∈st.map (·.1)→∀ c,c < n→∃ ms,W c b (some ms)∧∀ m∈ms,m∈st.map (·.1):=fun b hb c hc=>by
  obtain ⟨j,p,hj⟩:=q99 hb
  obtain ⟨ms,hw,hall⟩:=R.done j (Nat.lt_of_lt_of_le (List.getElem?_eq_some_iff.mp hj).1 hl) b p hj c hc
  refine ⟨ms,hw,fun m hm=>?_⟩
  obtain ⟨j',p',h1,_⟩:=hall m hm
  exact List.mem_map.mpr ⟨_,List.mem_of_getElem? h1,rfl⟩
 have each:∀ b,b∈st.map (·.1)→Cn E (fun e=>Fc cof c e∧U (E e).1∧U (E e).2) (E b).1 (E b).2:=fun b hb=>by
  obtain ⟨ms,hw,hin⟩:=closed b hb c hc
  exact ((hW.some c b ms hw).2).mono fun e he=>⟨he.1,(hU _).mpr ⟨e,hin e he.2,.inl rfl⟩,(hU _).mpr ⟨e,hin e he.2,.inr rfl⟩⟩
 have all:∀ (j:Nat) b p,st[j]?=some (b,p)→Cn E (fun e=>e∈st.map (·.1)) (E b0).1 (E b).1:=by
  intro j
  induction j using Nat.strongRecOn with
  | _ j ih=>
   intro b p hj
   cases p with
   | none=>
    have:=R.non j b hj
    subst this
    rw [R.first] at hj
    cases hj
    exact .refl
   | some b'=>
    obtain ⟨i,p,ci,ms0,h1,h2,h3,h4,h5,h6⟩:=R.par j b b' hj
    have hb':b'∈st.map (·.1):=List.mem_map.mpr ⟨_,List.mem_of_getElem? h3,rfl⟩
    obtain ⟨_,_,d3⟩:=(hW.some ci b' ms0 h5).1 b h6
    obtain ⟨ms,hw,hin⟩:=closed b' hb' ci h4
    refine (ih i h1 b' p h3).trans ?_
    by_cases hbm:b∈ms
    ·exact (((hW.some ci b' ms hw).1 b hbm).2.2).mono fun e he=>hin e he
    ·exfalso
     exact ((hW.some ci b' ms0 h5).1 b h6).2.1 (((hW.some ci b' ms hw).2).mono fun e he=>⟨he.1,fun q=>hbm (q ▸ he.2)⟩)
 have root:∀ z,U z→Cn E (fun e=>e∈st.map (·.1)) (E b0).1 z:=fun z hz=>by
  obtain ⟨b,hb,h⟩:=(hU z).mp hz
  obtain ⟨j,p,hj⟩:=q99 hb
  have:=all j b p hj
  rcases h with h | h
  ·rw [h];exact this
  ·rw [h];exact .fwd this hb
 intro x y hx hy
 exact Cn.subst each ((root x hx).symm.trans (root y hy))
end
end GM
namespace GM
section
variable {E:Int→Int × Int}
theorem q43 {U:List Int} (hU:U.Nodup):∀ (es:List Int),es.Nodup→Forest E (fun b=>b∈es)→(∀ e∈es,(E e).1∈U∧(E e).2∈U)→
  ∃ R:List Int,R.Nodup∧(∀ r∈R,r∈U)∧R.length+es.length=U.length∧(∀ x∈U,∃ r∈R,Cn E (fun b=>b∈es) x r)∧∀ r∈R,∀ r'∈R,Cn E (fun b=>b∈es) r r'→r=r'
 | [],_,_,_=>⟨U,hU,fun _ h=>h,by simp,fun x hx=>⟨x,hx,.refl⟩,fun r _ r' _ c=>by
   have:∀ {x y:Int},Cn E (fun b=>b∈([]:List Int)) x y→x=y:=fun {x y} c=>by
    induction c with
    | refl=>rfl
    | fwd _ h _=>simp at h
    | bwd _ h _=>simp at h
   exact this c⟩
 | b::es,nd,F,hin=>by
  obtain ⟨nb,nd'⟩:=List.nodup_cons.mp nd
  obtain ⟨R,r1,r2,r3,r4,r5⟩:=q43 hU es nd' (F.mono fun x hx=>List.mem_cons_of_mem _ hx) fun e he=>hin e (List.mem_cons_of_mem _ he)
  have no:¬ Cn E (fun x=>x∈es) (E b).1 (E b).2:=fun c=>F b (by simp) (c.mono fun x hx=>⟨List.mem_cons_of_mem _ hx,fun q=>nb (q ▸ hx)⟩)
  obtain ⟨u1,u2⟩:=hin b (by simp)
  obtain ⟨p1,hp1,c1⟩:=r4 _ u1
  obtain ⟨p2,hp2,c2⟩:=r4 _ u2
  have ne:p1≠p2:=fun e=>no (c1.trans (e ▸ c2.symm))
  have up:∀ {x y:Int},Cn E (fun x=>x∈es) x y→Cn E (fun x=>x∈b::es) x y:=fun c=>c.mono fun x hx=>List.mem_cons_of_mem _ hx
  have hadd:∀ x,x∈b::es→x∈es∨x=b:=fun x hx=>(List.mem_cons.mp hx).symm
  have hlen:(R.erase p2).length+1=R.length:=by
   rw [List.length_erase_of_mem hp2]
   have:=List.length_pos_of_mem hp2
   omega
  have mem:∀ r,r∈R.erase p2↔r≠p2∧r∈R:=fun r=>List.Nodup.mem_erase_iff r1
  refine ⟨R.erase p2,r1.erase _,fun r hr=>r2 r ((mem r).mp hr).2,by rw [List.length_cons];omega,fun x hx=>?_,fun r hr r' hr' c=>?_⟩
  ·obtain ⟨r,hr,c⟩:=r4 x hx
   by_cases e:r=p2
   ·subst e
    refine ⟨p1,(mem p1).mpr ⟨ne,hp1⟩,?_⟩
    exact (up c).trans ((up c2).symm.trans ((Cn.edge' (E:=E) (S:=fun x=>x∈b::es) (b:=b) (by simp)).trans (up c1)))
   ·exact ⟨r,(mem r).mpr ⟨e,hr⟩,up c⟩
  ·obtain ⟨n1,m1⟩:=(mem r).mp hr
   obtain ⟨n2,m2⟩:=(mem r').mp hr'
   rcases Cn.add (S:=fun x=>x∈es) hadd c with c | ⟨a1,a2⟩ | ⟨a1,a2⟩
   ·exact r5 r m1 r' m2 c
   ·exact absurd (r5 p2 hp2 r' m2 (c2.symm.trans a2)).symm n2
   ·exact absurd (r5 r m1 p2 hp2 (a1.trans c2)) n1
theorem q4f {U:List Int} (hU:U.Nodup) (hne:U≠[]) {es:List Int} (nd:es.Nodup) (F:Forest E fun b=>b∈es) (hin:∀ e∈es,(E e).1∈U∧(E e).2∈U):es.length+1≤U.length:=by
 obtain ⟨R,r1,r2,r3,r4,r5⟩:=q43 hU es nd F hin
 obtain ⟨x,hx⟩:=List.exists_mem_of_ne_nil U hne
 obtain ⟨r,hr,_⟩:=r4 x hx
 have:=List.length_pos_of_mem hr
 omega
theorem forest_eq {U:List Int} (hU:U.Nodup) (hne:U≠[]) {es:List Int} (nd:es.Nodup) (F:Forest E fun b=>b∈es) (hin:∀ e∈es,(E e).1∈U∧(E e).2∈U) (hc:∀ x∈U,∀ y∈U,Cn E (fun b=>b∈es) x y):es.length+1=U.length:=by
 obtain ⟨R,r1,r2,r3,r4,r5⟩:=q43 hU es nd F hin
 obtain ⟨x,hx⟩:=List.exists_mem_of_ne_nil U hne
 obtain ⟨r,hr,_⟩:=r4 x hx
 have:R.length≤1:=by
  match R,r1,r5 with
  | [],_,_=>simp
  | [_],_,_=>simp
  | a::b::t,n,q=>
   exfalso
   have e:=q a (by simp) b (by simp) (hc a (r2 a (by simp)) b (r2 b (by simp)))
   subst e
   exact (List.nodup_cons.mp n).1 (by simp)
 have:=List.length_pos_of_mem hr
 omega
end
theorem q8u {Bs:List Int} {a c:Int→Bool} (h:∀ b∈Bs,¬ (a b=true∧c b=true)):(Bs.filter fun b=>a b || c b).length=(Bs.filter a).length+(Bs.filter c).length:=by
 induction Bs with
 | nil=>rfl
 | cons b t ih=>
  have ih:=ih fun x hx=>h x (List.mem_cons_of_mem _ hx)
  have hb:=h b (by simp)
  rw [List.filter_cons,List.filter_cons,List.filter_cons]
  cases ea:a b <;> cases ec:c b <;> simp [ea,ec] at hb ⊢ <;> omega
theorem q38 {Bs:List Int} (p q:Int→Bool):(Bs.filter p).length=(Bs.filter fun b=>p b && q b).length+(Bs.filter fun b=>p b && !q b).length:=by
 induction Bs with
 | nil=>rfl
 | cons b t ih=>
  rw [List.filter_cons,List.filter_cons,List.filter_cons]
  cases ea:p b <;> cases ec:q b <;> simp <;> omega
def sumN (f:Nat→Nat):Nat→Nat
 | 0=>0
 | n+1=>sumN f n+f n
theorem z0f {f g:Nat→Nat}:∀ {n:Nat},(∀ c,c < n→f c≤g c)→sumN f n≤sumN g n
 | 0,_=>Nat.le_refl _
 | n+1,h=>Nat.add_le_add (z0f fun c hc=>h c (by omega)) (h n (by omega))
theorem q3i (k:Nat):∀ n,sumN (fun _=>k) n=n*k
 | 0=>by simp [sumN]
 | n+1=>by rw [sumN,q3i k n,Nat.succ_mul]
theorem q6o {f g:Nat→Nat}:∀ {n:Nat},(∀ c,c < n→f c=g c)→sumN f n=sumN g n
 | 0,_=>rfl
 | n+1,h=>by rw [sumN,sumN,q6o fun c hc=>h c (by omega),h n (by omega)]
theorem z0x {Bs:List Int} (d:Int→Option Nat) (q:Int→Bool):∀ (n:Nat),(Bs.filter fun b=>(d b).any (fun k=>decide (k < n)) && q b).length=sumN (fun c=>(Bs.filter fun b=>(d b == some c) && q b).length) n
 | 0=>by
  have:(Bs.filter fun b=>(d b).any (fun k=>decide (k < 0)) && q b)=[]:=by
   rw [List.filter_eq_nil_iff]
   intro b _
   cases d b <;> simp
  rw [this]
  rfl
 | n+1=>by
  rw [sumN,← z0x d q n,← q8u]
  ·congr 1
   refine List.filter_congr fun b _=>?_
   cases e:d b with
   | none=>simp
   | some k=>
    cases q b
    ·simp
    ·simp only [Option.any_some,Bool.and_true]
     rw [Bool.eq_iff_iff]
     simp
     omega
  ·intro b _ ⟨h1,h2⟩
   cases e:d b with
   | none=>simp [e] at h1
   | some k=>
    simp [e] at h1 h2
    omega
theorem z0w {Bs:List Int} {d:Int→Option Nat} {n:Nat} (h:∀ b∈Bs,∀ k,d b=some k→k < n) (q:Int→Bool):(Bs.filter fun b=>(d b).isSome && q b).length=sumN (fun c=>(Bs.filter fun b=>(d b == some c) && q b).length) n:=by
 rw [← z0x d q n]
 congr 1
 refine List.filter_congr fun b hb=>?_
 cases e:d b with
 | none=>simp
 | some k=>
  have:=h b hb k e
  simp [this]
def wi (E:Int→Int × Int) (g:List Int) (b:Int):Bool:=g.contains (E b).1 && g.contains (E b).2
theorem sum_hud {E:Int→Int × Int} {Bs:List Int} (p:Int→Bool):∀ (huds:List (List Int)),huds.flatten.Nodup→(Bs.filter fun b=>p b && huds.any fun g=>wi E g b).length=(huds.map fun g=>(Bs.filter fun b=>p b && wi E g b).length).sum
 | [],_=>by simp
 | g::t,nd=>by
  rw [List.flatten_cons] at nd
  obtain ⟨_,nd2,dis⟩:=List.nodup_append.mp nd
  rw [List.map_cons,List.sum_cons,← sum_hud p t nd2,← q8u]
  ·congr 1
   refine List.filter_congr fun b _=>?_
   rw [List.any_cons]
   cases p b <;> simp
  ·intro b _ ⟨h1,h2⟩
   simp only [Bool.and_eq_true] at h1 h2
   obtain ⟨g',hg',w'⟩:=List.any_eq_true.mp h2.2
   have w:=h1.2
   unfold wi at w w'
   simp only [Bool.and_eq_true,List.contains_iff_mem] at w w'
   exact dis _ w.1 _ (List.mem_flatten.mpr ⟨g',hg',w'.1⟩) rfl
def z0a (E:Int→Int × Int) (Bs:List Int) (n:Nat) (huds:List (List Int)):Nat:=(Bs.filter fun b=>!huds.any fun g=>wi E g b).length+(huds.map fun g=>n*(g.length - 1)).sum
theorem sum_le {α:Type} {f g:α→Nat}:∀ {l:List α},(∀ x∈l,f x≤g x)→(l.map f).sum≤(l.map g).sum
 | [],_=>Nat.le_refl _
 | a::t,h=>by
  rw [List.map_cons,List.map_cons,List.sum_cons,List.sum_cons]
  exact Nat.add_le_add (h a (by simp)) (sum_le fun x hx=>h x (List.mem_cons_of_mem _ hx))
theorem sum_eq {α:Type} {f g:α→Nat} {l:List α} (h:∀ x∈l,f x=g x):(l.map f).sum=(l.map g).sum:=by
 rw [List.map_congr_left h]
theorem q69 {E:Int→Int × Int} {Bs:List Int} {huds:List (List Int)} (nd:huds.flatten.Nodup) {d:Int→Option Nat} {n:Nat} (h:∀ b∈Bs,∀ k,d b=some k→k < n) :
  (Bs.filter fun b=>(d b).isSome).length=(huds.map fun g=>sumN (fun c=>(Bs.filter fun b=>(d b == some c) && wi E g b).length) n).sum+(Bs.filter fun b=>(d b).isSome && !huds.any fun g=>wi E g b).length:=by
 rw [q38 (fun b=>(d b).isSome) (fun b=>huds.any fun g=>wi E g b),sum_hud _ huds nd]
 congr 1
 exact sum_eq fun g _=>z0w h _
theorem dealt_le {E:Int→Int × Int} {Bs:List Int} {huds:List (List Int)} (nd:huds.flatten.Nodup) {d:Int→Option Nat} {n:Nat} (h:∀ b∈Bs,∀ k,d b=some k→k < n)
  (hw:∀ g∈huds,∀ c,c < n→(Bs.filter fun b=>(d b == some c) && wi E g b).length≤g.length - 1):(Bs.filter fun b=>(d b).isSome).length≤z0a E Bs n huds:=by
 rw [q69 nd h]
 unfold z0a
 rw [Nat.add_comm]
 refine Nat.add_le_add ?_ (sum_le fun g hg=>?_)
 ·have:=q38 (Bs:=Bs) (fun b=>!huds.any fun g=>wi E g b) (fun b=>(d b).isSome)
  rw [this]
  refine Nat.le_trans (Nat.le_of_eq ?_) (Nat.le_add_right _ _)
  congr 1
  exact List.filter_congr fun b _=>Bool.and_comm _ _
 ·have:=z0f (f:=fun c=>(Bs.filter fun b=>(d b == some c) && wi E g b).length) (g:=fun _=>g.length - 1) (n:=n) (hw g hg)
  rw [q3i] at this
  exact this
theorem dealt_eq {E:Int→Int × Int} {Bs:List Int} {huds:List (List Int)} (nd:huds.flatten.Nodup) {d:Int→Option Nat} {n:Nat} (h:∀ b∈Bs,∀ k,d b=some k→k < n)
  (hw:∀ g∈huds,∀ c,c < n→(Bs.filter fun b=>(d b == some c) && wi E g b).length=g.length - 1) (ho:∀ b∈Bs,(huds.any fun g=>wi E g b)=false→(d b).isSome=true):(Bs.filter fun b=>(d b).isSome).length=z0a E Bs n huds:=by
 rw [q69 nd h]
 unfold z0a
 rw [Nat.add_comm]
 congr 1
 ·congr 1
  refine List.filter_congr fun b hb=>?_
  cases e:huds.any fun g=>wi E g b with
  | true=>simp
  | false=>rw [ho b hb e];rfl
 ·refine sum_eq fun g hg=>?_
  rw [q6o (g:=fun _=>g.length - 1) (hw g hg),q3i]
section
variable {E:Int→Int × Int}
theorem within_le {Bs:List Int} (hB:Bs.Nodup) {d:Int→Option Nat} {c:Nat} (F:Forest E (Fc d c)) {g:List Int} (hg:g.Nodup) (hne:g≠[]):(Bs.filter fun b=>(d b == some c) && wi E g b).length≤g.length - 1:=by
 have:=q4f (E:=E) hg hne (es:=Bs.filter fun b=>(d b == some c) && wi E g b) (hB.filter _) (F.mono fun b hb=>?_) fun b hb=>?_
 ·omega
 ·have:=(List.mem_filter.mp hb).2
  simp only [Bool.and_eq_true,beq_iff_eq] at this
  exact this.1
 ·have:=(List.mem_filter.mp hb).2
  unfold wi at this
  simp only [Bool.and_eq_true,List.contains_iff_mem] at this
  exact this.2
theorem within_eq {Bs:List Int} (hB:Bs.Nodup) {d:Int→Option Nat} {n c:Nat} (hc:c < n) (hin:∀ b k,d b=some k→b∈Bs) (F:Forest E (Fc d c)) {g:List Int} (hg:g.Nodup) (hne:g≠[]) (hU:Hu E n d fun x=>x∈g):(Bs.filter fun b=>(d b == some c) && wi E g b).length=g.length - 1:=by
 have:=forest_eq (E:=E) hg hne (es:=Bs.filter fun b=>(d b == some c) && wi E g b) (hB.filter _) (F.mono fun b hb=>?_) (fun b hb=>?_) fun x hx y hy=>?_
 ·omega
 ·have:=(List.mem_filter.mp hb).2
  simp only [Bool.and_eq_true,beq_iff_eq] at this
  exact this.1
 ·have:=(List.mem_filter.mp hb).2
  unfold wi at this
  simp only [Bool.and_eq_true,List.contains_iff_mem] at this
  exact this.2
 ·refine (hU c hc x y hx hy).mono fun e he=>List.mem_filter.mpr ⟨hin e c he.1,?_⟩
  unfold wi
  simp only [Bool.and_eq_true,beq_iff_eq,List.contains_iff_mem]
  exact he
end
end GM
namespace GM
section
variable {E:Int→Int × Int}
def mts (g qs:List Int):Bool:=g.any fun x=>qs.contains x
theorem mts_iff {g qs:List Int}:mts g qs=true↔∃ x,x∈g∧x∈qs:=by
 unfold mts
 rw [List.any_eq_true]
 exact ⟨fun ⟨x,h1,h2⟩=>⟨x,h1,List.contains_iff_mem.mp h2⟩,fun ⟨x,h1,h2⟩=>⟨x,h1,List.contains_iff_mem.mpr h2⟩⟩
structure Mrg (huds:List (List Int)) (qs:List Int) (mss:List (List Int)) (m:List Int):Prop where
 perm:mss.Perm (huds.filter (fun g=>!mts g qs)++[m])
 nd:m.Nodup
 rise:m.Pairwise (·≤·)
 mem:∀ x,x∈m↔x∈qs∨∃ g∈huds,mts g qs=true∧x∈g
 ord:mss.flatten.Nodup→(∀ g∈mss,g≠[])→(mss.map (·.headD 0)).Pairwise (· < ·)
def EndsOf (E:Int→Int × Int) (st:PSt) (qs:List Int):Prop:=∀ z,z∈qs↔∃ b∈st.map (·.1),z=(E b).1∨z=(E b).2
inductive DealR (E:Int→Int × Int) (n:Nat) (WP:(Int→Option Nat)→WR→Prop):Nat→(Int→Option Nat)→List (List Int)→Prop
 | start:DealR E n WP 0 (fun _=>none) []
 | skip {i:Nat} {cof:Int→Option Nat} {huds:List (List Int)}:DealR E n WP i cof huds→(huds.any fun g=>wi E g (i:Int))=true→DealR E n WP (i+1) cof huds
 | hud {i:Nat} {cof:Int→Option Nat} {huds mss:List (List Int)} {m qs:List Int} {W:WR} {st:PSt}:DealR E n WP i cof huds→(huds.any fun g=>wi E g (i:Int))=false→WP cof W→RoomR W n 0 [((i:Int),none)] none st→EndsOf E st qs→Mrg huds qs mss m→DealR E n WP (i+1) cof mss
 | room {i pl:Nat} {cof:Int→Option Nat} {huds:List (List Int)} {W:WR} {st:PSt} {b:Int} {p:Option Int} {c:Nat} {r:List Int}:DealR E n WP i cof huds→(huds.any fun g=>wi E g (i:Int))=false→WP cof W→RoomR W n 0 [((i:Int),none)] (some (b,c)) st→RI W n i pl (pl+1) st→st[pl]?=some (b,p)→c < n→W c b none→Rw st pl (b::r)→DealR E n WP (i+1) (shf cof c (b::r)) huds
structure DI (E:Int→Int × Int) (n:Nat) (q:Int) (i:Nat) (cof:Int→Option Nat) (huds:List (List Int)):Prop where
 fo:∀ c,Forest E (Fc cof c)
 lt:∀ b k,cof b=some k→k < n
 rng:∀ b k,cof b=some k→0≤b∧b < (i:Int)
 hu:∀ g∈huds,Hu E n cof fun x=>x∈g
 rise:∀ g∈huds,g.Pairwise (·≤·)
 two:∀ g∈huds,2≤g.length
 nd:huds.flatten.Nodup
 qr:∀ g∈huds,∀ x∈g,0≤x∧x < q
 left:∀ b:Int,0≤b→b < (i:Int)→cof b=none→(huds.any fun g=>wi E g b)=true
 und:∀ g∈huds,∃ b:Int,0≤b∧b < (i:Int)∧cof b=none∧wi E g b=true
 ordr:(huds.map (·.headD 0)).Pairwise (· < ·)
theorem q5x {huds:List (List Int)} (h:huds.flatten.Nodup):∀ g∈huds,g.Nodup:=by
 induction huds with
 | nil=>intro g hg;simp at hg
 | cons a t ih=>
  rw [List.flatten_cons] at h
  obtain ⟨h1,h2,_⟩:=List.nodup_append.mp h
  intro g hg
  rcases List.mem_cons.mp hg with e | e
  ·rw [e];exact h1
  ·exact ih h2 g e
theorem q83 {huds:List (List Int)} (h:huds.flatten.Nodup) (p:List Int→Bool) {g:List Int} (hg:g∈huds) (hp:p g=true) {x:Int} (hx:x∈g):x ∉ (huds.filter fun g=>!p g).flatten:=by
 induction huds with
 | nil=>simp at hg
 | cons a t ih=>
  rw [List.flatten_cons] at h
  obtain ⟨h1,h2,h3⟩:=List.nodup_append.mp h
  intro hm
  rw [List.filter_cons] at hm
  have hsub:∀ y,y∈(t.filter fun g=>!p g).flatten→y∈t.flatten:=fun y hy=>by
   obtain ⟨z,hz,hyz⟩:=List.mem_flatten.mp hy
   exact List.mem_flatten.mpr ⟨z,(List.mem_filter.mp hz).1,hyz⟩
  rcases List.mem_cons.mp hg with e | e
  ·subst e
   rw [hp] at hm
   simp only [Bool.not_true,Bool.false_eq_true,if_false] at hm
   exact h3 x hx x (hsub x hm) rfl
  ·split at hm
   ·rw [List.flatten_cons] at hm
    rcases List.mem_append.mp hm with hm | hm
    ·exact h3 x hm x (List.mem_flatten.mpr ⟨g,e,hx⟩) rfl
    ·exact ih h2 e hm
   ·exact ih h2 e hm
theorem q5g {huds:List (List Int)} (h:huds.flatten.Nodup) (p:List Int→Bool):(huds.filter p).flatten.Nodup:=by
 induction huds with
 | nil=>simp
 | cons a t ih=>
  rw [List.flatten_cons] at h
  obtain ⟨h1,h2,h3⟩:=List.nodup_append.mp h
  rw [List.filter_cons]
  split
  ·rw [List.flatten_cons]
   refine List.nodup_append.mpr ⟨h1,ih h2,fun a ha c hc=>h3 a ha c ?_⟩
   obtain ⟨z,hz,hyz⟩:=List.mem_flatten.mp hc
   exact List.mem_flatten.mpr ⟨z,(List.mem_filter.mp hz).1,hyz⟩
  ·exact ih h2
theorem len2 {m:List Int} {x y:Int} (hx:x∈m) (hy:y∈m) (ne:x≠y):2≤m.length:=by
 match m with
 | []=>simp at hx
 | [a]=>simp at hx hy;omega
 | _::_::_=>simp
theorem z1z {E:Int→Int × Int} {huds mss:List (List Int)} {b:Int} (h:∀ g∈huds,∃ g'∈mss,∀ x∈g,x∈g') (ha:(huds.any fun g=>wi E g b)=true):(mss.any fun g=>wi E g b)=true:=by
 obtain ⟨g,hg,w⟩:=List.any_eq_true.mp ha
 obtain ⟨g',hg',hs⟩:=h g hg
 refine List.any_eq_true.mpr ⟨g',hg',?_⟩
 unfold wi at w ⊢
 simp only [Bool.and_eq_true,List.contains_iff_mem] at w ⊢
 exact ⟨hs _ w.1,hs _ w.2⟩
theorem DealR.di {n N:Nat} {q:Int} {WP:(Int→Option Nat)→WR→Prop} (hE:∀ b:Int,0≤b→b < (N:Int)→(0≤(E b).1∧(E b).1 < q)∧(0≤(E b).2∧(E b).2 < q)∧(E b).1≠(E b).2)
  (hWP:∀ cof W,WP cof W→(∀ c,Forest E (Fc cof c))→(∀ b k,cof b=some k→0≤b∧b < (N:Int))→WOk E cof W)
  {i:Nat} {cof:Int→Option Nat} {huds:List (List Int)} (h:DealR E n WP i cof huds):i≤N→DI E n q i cof huds:=by
 induction h with
 | start=>
  intro _
  have no:∀ {g:List Int},g∈([]:List (List Int))→False:=fun h=>by cases h
  exact ⟨fun c b hb=>(by cases hb),fun b k hb=>(by cases hb),fun b k hb=>(by cases hb),fun g hg=>(no hg).elim,fun g hg=>(no hg).elim,fun g hg=>(no hg).elim,by simp,fun g hg=>(no hg).elim,fun b h0 h1 _=>absurd h1 (by simp;omega),fun g hg=>(no hg).elim,by simp⟩
 | @skip i cof huds _ hs ih=>
  intro hi
  have D:=ih (by omega)
  refine ⟨D.fo,D.lt,fun b k e=>⟨(D.rng b k e).1,by have:=(D.rng b k e).2;omega⟩,D.hu,D.rise,D.two,D.nd,D.qr,fun b h0 h1 e=>?_,fun g hg=>let ⟨b,h0,h1,h2⟩:=D.und g hg;⟨b,h0,by omega,h2⟩,D.ordr⟩
  by_cases q:b=(i:Int)
  ·rw [q];exact hs
  ·exact D.left b h0 (by omega) e
 | @hud i cof huds mss m qs W st _ hs hwp hroom hqs M ih=>
  intro hi
  have D:=ih (by omega)
  have hW:=hWP cof W hwp D.fo fun b k e=>⟨(D.rng b k e).1,by have:=(D.rng b k e).2;omega⟩
  obtain ⟨pl,hl,R⟩:=(RI.room hroom (b0:=(i:Int)) RI.init).1 rfl
  have hqU:Hu E n cof fun x=>x∈qs:=room_hu hW R hl hqs
  have hfirst:(i:Int)∈st.map (·.1):=List.mem_map.mpr ⟨_,List.mem_of_getElem? R.first,rfl⟩
  have hst:∀ b∈st.map (·.1),0≤b∧b < (N:Int):=fun b hb=>by
   obtain ⟨j,p,hj⟩:=q99 hb
   cases p with
   | none=>
    have e:=R.non j b hj
    subst e
    rw [R.first] at hj
    cases hj
    exact ⟨by omega,by omega⟩
   | some b'=>
    obtain ⟨_,_,c,ms,_,_,_,_,hw,hm⟩:=R.par j b b' hj
    have:=D.rng b c ((hW.some c b' ms hw).1 b hm).1
    exact ⟨this.1,by have:=this.2;omega⟩
  obtain ⟨e1,e2,e3⟩:=hE (i:Int) (by omega) (by omega)
  have s1:(E (i:Int)).1∈qs:=(hqs _).mpr ⟨_,hfirst,.inl rfl⟩
  have s2:(E (i:Int)).2∈qs:=(hqs _).mpr ⟨_,hfirst,.inr rfl⟩
  have qsr:∀ x∈qs,0≤x∧x < q:=fun x hx=>by
   obtain ⟨b,hb,h⟩:=(hqs x).mp hx
   obtain ⟨h0,h1⟩:=hst b hb
   obtain ⟨f1,f2,_⟩:=hE b h0 h1
   rcases h with h | h <;> rw [h]
   ·exact f1
   ·exact f2
  have mU:Hu E n cof fun x=>x∈m:=by
   intro c hc
   have up:∀ {U:Int→Prop} {x y:Int},(∀ z,U z→z∈m)→Cn E (fun e=>Fc cof c e∧U (E e).1∧U (E e).2) x y→Cn E (fun e=>Fc cof c e∧(E e).1∈m∧(E e).2∈m) x y:=fun hz h=>h.mono fun e he=>⟨he.1,hz _ he.2.1,hz _ he.2.2⟩
   have q2m:∀ z,z∈qs→z∈m:=fun z hz=>(M.mem z).mpr (.inl hz)
   have go:∀ x∈m,Cn E (fun e=>Fc cof c e∧(E e).1∈m∧(E e).2∈m) (E (i:Int)).1 x:=fun x hx=>by
    rcases (M.mem x).mp hx with h | ⟨g,hg,hm,hxg⟩
    ·exact up q2m (hqU c hc _ x s1 h)
    ·obtain ⟨y,hy1,hy2⟩:=mts_iff.mp hm
     exact (up q2m (hqU c hc _ y s1 hy2)).trans (up (fun z hz=>(M.mem z).mpr (.inr ⟨g,hg,hm,hz⟩)) (D.hu g hg c hc y x hy1 hxg))
   exact fun x y hx hy=>(go x hx).symm.trans (go y hy)
  have cases_:∀ g∈mss,(g∈huds∧mts g qs=false)∨g=m:=fun g hg=>by
   rcases List.mem_append.mp (M.perm.mem_iff.mp hg) with h | h
   ·have:=List.mem_filter.mp h
    exact .inl ⟨this.1,by simpa using this.2⟩
   ·exact .inr (List.mem_singleton.mp h)
  have mmem:m∈mss:=M.perm.mem_iff.mpr (by simp)
  have hnd:mss.flatten.Nodup:=by
   refine (List.Perm.nodup_iff (List.Perm.flatten M.perm)).mpr ?_
   rw [List.flatten_append]
   refine List.nodup_append.mpr ⟨q5g D.nd _,by simpa using M.nd,fun a ha c hc e=>?_⟩
   subst e
   have hc:a∈m:=by simpa using hc
   rcases (M.mem a).mp hc with h | ⟨g,hg,hm,hag⟩
   ·obtain ⟨z,hz,haz⟩:=List.mem_flatten.mp ha
    have h1:=(List.mem_filter.mp hz).2
    have h2:mts z qs=true:=mts_iff.mpr ⟨a,haz,h⟩
    rw [h2] at h1
    cases h1
   ·exact q83 D.nd (fun g=>mts g qs) hg hm hag ha
  have htwo:∀ g∈mss,2≤g.length:=fun g hg=>by
   rcases cases_ g hg with ⟨h,_⟩ | h
   ·exact D.two g h
   ·rw [h]
    exact len2 ((M.mem _).mpr (.inl s1)) ((M.mem _).mpr (.inl s2)) e3
  refine ⟨D.fo,D.lt,fun b k e=>⟨(D.rng b k e).1,by have:=(D.rng b k e).2;omega⟩,fun g hg=>?_,fun g hg=>?_,htwo,hnd,fun g hg=>?_,fun b h0 h1 e=>?_,fun g hg=>?_,M.ord hnd fun g hg e=>by have:=htwo g hg;rw [e] at this;simp at this⟩
  ·rcases cases_ g hg with ⟨h,_⟩ | h
   ·exact D.hu g h
   ·rw [h];exact mU
  ·rcases cases_ g hg with ⟨h,_⟩ | h
   ·exact D.rise g h
   ·rw [h];exact M.rise
  ·rcases cases_ g hg with ⟨h,_⟩ | h
   ·exact D.qr g h
   ·rw [h]
    intro x hx
    rcases (M.mem x).mp hx with h | ⟨g',hg',_,hxg⟩
    ·exact qsr x h
    ·exact D.qr g' hg' x hxg
  ·by_cases qe:b=(i:Int)
   ·refine List.any_eq_true.mpr ⟨m,mmem,?_⟩
    rw [qe]
    unfold wi
    simp only [Bool.and_eq_true,List.contains_iff_mem]
    exact ⟨(M.mem _).mpr (.inl s1),(M.mem _).mpr (.inl s2)⟩
   ·refine z1z (fun g hg=>?_) (D.left b h0 (by omega) e)
    cases hm:mts g qs with
    | true=>exact ⟨m,mmem,fun x hx=>(M.mem x).mpr (.inr ⟨g,hg,hm,hx⟩)⟩
    | false=>exact ⟨g,M.perm.mem_iff.mpr (List.mem_append_left _ (List.mem_filter.mpr ⟨hg,by rw [hm];rfl⟩)),fun x hx=>hx⟩
  ·rcases cases_ g hg with ⟨h,_⟩ | h
   ·obtain ⟨b,h0,h1,h2⟩:=D.und g h
    exact ⟨b,h0,by omega,h2⟩
   ·refine ⟨(i:Int),by omega,by omega,?_,?_⟩
    ·cases e:cof (i:Int) with
     | none=>rfl
     | some k=>have:=(D.rng _ k e).2;omega
    ·rw [h]
     unfold wi
     simp only [Bool.and_eq_true,List.contains_iff_mem]
     exact ⟨(M.mem _).mpr (.inl s1),(M.mem _).mpr (.inl s2)⟩
 | @room i pl cof huds W st b p c r _ hs hwp hroom R hb hc hw hr ih=>
  intro hi
  have D:=ih (by omega)
  have hW:=hWP cof W hwp D.fo fun b k e=>⟨(D.rng b k e).1,by have:=(D.rng b k e).2;omega⟩
  have h0:cof (i:Int)=none:=by
   cases e:cof (i:Int) with
   | none=>rfl
   | some k=>have:=(D.rng _ k e).2;omega
  have A:=z1y hW D.fo h0 R hb hc hw hr
  have hrow:∀ x∈b::r,x=(i:Int)∨(cof x).isSome=true:=fun x hx=>by
   obtain ⟨j,p',_,hj⟩:=hr.ix x hx
   cases p' with
   | none=>
    have e:=R.non j x hj
    subst e
    rw [R.first] at hj
    cases hj
    exact .inl rfl
   | some b'=>
    obtain ⟨_,_,c',ms,_,_,_,_,hw',hm⟩:=R.par j x b' hj
    have:=((hW.some c' b' ms hw').1 x hm).1
    exact .inr (by rw [this];rfl)
  have hi_in:(i:Int)∈b::r:=by
   obtain ⟨pre,x,e⟩:∃ pre x,b::r=pre++[x]:=⟨(b::r).dropLast,(b::r).getLast (by simp),(List.dropLast_concat_getLast _).symm⟩
   have:=hr.last pre x e
   rw [R.first] at this
   cases this
   rw [e]
   simp
  refine ⟨q4s _ hc A,shf_lt _ hc D.lt,fun x k e=>?_,fun g hg=>aug_hu hc A (D.hu g hg),D.rise,D.two,D.nd,D.qr,fun x h1 h2 e=>?_,fun g hg=>?_,D.ordr⟩
  ·by_cases hx:x∈b::r
   ·rcases hrow x hx with q | q
    ·rw [q];exact ⟨by omega,by omega⟩
    ·obtain ⟨k',hk'⟩:=Option.isSome_iff_exists.mp q
     have:=D.rng x k' hk'
     exact ⟨this.1,by have:=this.2;omega⟩
   ·rw [q2y _ hx] at e
    have:=D.rng x k e
    exact ⟨this.1,by have:=this.2;omega⟩
  ·by_cases hx:x∈b::r
   ·have:=shf_in (b::r) (cof:=cof) (c:=c) hx
    rw [e] at this
    cases this
   ·rw [q2y _ hx] at e
    have:x≠(i:Int):=fun q=>hx (q ▸ hi_in)
    exact D.left x h1 (by omega) e
  ·obtain ⟨x,h1,h2,h3,h4⟩:=D.und g hg
   refine ⟨x,h1,by omega,?_,h4⟩
   rw [q2y _ fun hx=>?_]
   ·exact h3
   ·obtain ⟨pre,post,eq⟩:=List.append_of_mem hx
    unfold wi at h4
    simp only [Bool.and_eq_true,List.contains_iff_mem] at h4
    exact z0j hc A (D.hu g hg) pre x post eq h4
theorem DI.count {n N:Nat} {q:Int} {cof:Int→Option Nat} {huds:List (List Int)} (D:DI E n q N cof huds) {Bs:List Int} (hB:Bs.Nodup) (hm:∀ b,b∈Bs↔0≤b∧b < (N:Int)):(Bs.filter fun b=>(cof b).isSome).length=z0a E Bs n huds:=by
 refine dealt_eq D.nd (fun b _ k e=>D.lt b k e) (fun g hg c hc=>?_) fun b hb e=>?_
 ·have h2:=D.two g hg
  exact within_eq hB hc (fun b k e=>(hm b).mpr (D.rng b k e)) (D.fo c) (q5x D.nd g hg) (fun z=>by simp [z] at h2) (D.hu g hg)
 ·cases q:cof b with
  | some k=>rfl
  | none=>
   obtain ⟨h0,h1⟩:=(hm b).mp hb
   rw [D.left b h0 h1 q] at e
   cases e
theorem DI.most {n N:Nat} {q:Int} {cof:Int→Option Nat} {huds:List (List Int)} (D:DI E n q N cof huds) {Bs:List Int} (hB:Bs.Nodup) {d:Int→Option Nat} (hd:∀ b∈Bs,∀ k,d b=some k→k < n) (hf:∀ c,c < n→Forest E fun b=>b∈Bs∧d b=some c):(Bs.filter fun b=>(d b).isSome).length≤z0a E Bs n huds:=by
 refine dealt_le D.nd hd fun g hg c hc=>?_
 have h2:=D.two g hg
 have:=q4f (E:=E) (q5x D.nd g hg) (fun z=>by simp [z] at h2) (es:=Bs.filter fun b=>(d b == some c) && wi E g b) (hB.filter _) ((hf c hc).mono fun b hb=>?_) fun b hb=>?_
 ·omega
 ·have:=List.mem_filter.mp hb
  simp only [Bool.and_eq_true,beq_iff_eq] at this
  exact ⟨this.1,this.2.1⟩
 ·have:=(List.mem_filter.mp hb).2
  unfold wi at this
  simp only [Bool.and_eq_true,List.contains_iff_mem] at this
  exact this.2
end
end GM
namespace GM
def allB (N:Nat):List Int:=(List.range N).map fun (j:Nat)=>(j:Int)
theorem q0w (N:Nat):(allB N).Nodup:=by
 unfold allB
 rw [List.nodup_iff_pairwise_ne,List.pairwise_map]
 exact (List.nodup_iff_pairwise_ne.mp List.nodup_range).imp fun h e=>h (by omega)
theorem mem_allB {N:Nat} {b:Int}:b∈allB N↔0≤b∧b < (N:Int):=by
 unfold allB
 rw [List.mem_map]
 constructor
 ·rintro ⟨j,hj,rfl⟩
  have:=List.mem_range.mp hj
  omega
 ·rintro ⟨h0,h1⟩
  exact ⟨b.toNat,List.mem_range.mpr (by omega),by omega⟩
theorem q1n (N:Nat):(allB N).length=N:=by
 unfold allB
 rw [List.length_map,List.length_range]
structure Dl (E:Int→Int × Int) (N n:Nat) (d:Int→Option Nat):Prop where
 rng:∀ b k,d b=some k→0≤b∧b < (N:Int)
 lt:∀ b k,d b=some k→k < n
 fo:∀ c,Forest E (Fc d c)
def cnt (N:Nat) (d:Int→Option Nat):Nat:=((allB N).filter fun b=>(d b).isSome).length
structure Mx (E:Int→Int × Int) (N n r:Nat):Prop where
 ex:∃ d,Dl E N n d∧cnt N d=r
 le:∀ d,Dl E N n d→cnt N d≤r
section
variable {E E':Int→Int × Int} {N N' n r:Nat}
theorem DI.dl {q:Int} {cof:Int→Option Nat} {huds:List (List Int)} (D:DI E n q N cof huds):Dl E N n cof:=⟨D.rng,D.lt,D.fo⟩
theorem DI.mx {q:Int} {cof:Int→Option Nat} {huds:List (List Int)} (D:DI E n q N cof huds):Mx E N n (cnt N cof):=by
 refine ⟨⟨cof,D.dl,rfl⟩,fun d hd=>?_⟩
 unfold cnt
 rw [D.count (q0w N) fun b=>mem_allB]
 exact D.most (q0w N) (fun b _ k e=>hd.lt b k e) fun c _=>(hd.fo c).mono fun b hb=>hb.2
theorem Mx.one {r':Nat} (h:Mx E N n r) (h':Mx E N n r'):r=r':=by
 obtain ⟨d,hd,e⟩:=h.ex
 obtain ⟨d',hd',e'⟩:=h'.ex
 have h1:=h'.le d hd
 have h2:=h.le d' hd'
 omega
theorem cnt_le (d:Int→Option Nat):cnt N d≤N:=by
 unfold cnt
 refine Nat.le_trans (List.length_filter_le _ _) ?_
 rw [q1n]
 exact Nat.le_refl _
theorem mx_zero:Mx E N 0 0:=by
 refine ⟨⟨fun _=>none,⟨fun b k e=>(by cases e),fun b k e=>(by cases e),fun c b hb=>(by cases hb)⟩,?_⟩,fun d hd=>?_⟩
 ·unfold cnt
  simp
 ·have:∀ b,d b=none:=fun b=>by
   cases e:d b with
   | none=>rfl
   | some k=>exact absurd (hd.lt b k e) (Nat.not_lt_zero _)
  unfold cnt
  simp [this]
theorem Mx.more {r' q:Nat} (hq:0 < q) (hE:∀ b:Int,0≤b→b < (N:Int)→(0≤(E b).1∧(E b).1 < (q:Int))∧(0≤(E b).2∧(E b).2 < (q:Int))) (h:Mx E N n r) (h':Mx E N (n+1) r'):r'+1≤r+q:=by
 obtain ⟨d,hd,rfl⟩:=h'.ex
 have h1:=h.le (fun b=>if d b=some n then none else d b) ⟨fun b k e=>by
   by_cases q:d b=some n
   ·simp [q] at e
   ·simp [q] at e;exact hd.rng b k e,fun b k e=>by
   by_cases q:d b=some n
   ·simp [q] at e
   ·simp [q] at e
    have:=hd.lt b k e
    have:k≠n:=fun z=>q (z ▸ e)
    omega,fun c=>(hd.fo c).mono fun b hb=>by
   unfold Fc at hb ⊢
   by_cases q:d b=some n
   ·simp [q] at hb
   ·simpa [q] using hb⟩
 have h2:=q4f (E:=E) (U:=allB q) (q0w q) (fun z=>by have:=congrArg List.length z;rw [q1n] at this;simp at this;omega) (es:=(allB N).filter fun b=>d b == some n) ((q0w N).filter _) ((hd.fo n).mono fun b hb=>by have:=(List.mem_filter.mp hb).2;simpa [Fc] using this) fun b hb=>by
  obtain ⟨e1,e2⟩:=mem_allB.mp (List.mem_filter.mp hb).1
  obtain ⟨f1,f2⟩:=hE b e1 e2
  exact ⟨mem_allB.mpr f1,mem_allB.mpr f2⟩
 rw [q1n] at h2
 have h3:=q38 (Bs:=allB N) (fun b=>(d b).isSome) (fun b=>d b == some n)
 have e1:((allB N).filter fun b=>(d b).isSome && (d b == some n))=(allB N).filter fun b=>d b == some n:=List.filter_congr fun b _=>by
  cases d b <;> simp
 have e2:((allB N).filter fun b=>(d b).isSome && !(d b == some n))=(allB N).filter fun b=>(if d b=some n then none else d b).isSome:=List.filter_congr fun b _=>by
  by_cases q:d b=some n
  ·simp [q]
  ·cases e:d b with
   | none=>simp
   | some k=>
    have:k≠n:=fun z=>q (by rw [e,z])
    simp [this]
 rw [e1,e2] at h3
 unfold cnt at h1 ⊢
 have h1:((allB N).filter fun b=>(if d b=some n then none else d b).isSome).length≤r:=h1
 omega
theorem nd_len:∀ (a b:List Int),a.Nodup→(∀ x∈a,x∈b)→a.length≤b.length
 | [],_,_,_=>Nat.zero_le _
 | x::a,b,nd,h=>by
  obtain ⟨n1,n2⟩:=List.nodup_cons.mp nd
  have hx:=h x (by simp)
  have:=nd_len a (b.erase x) n2 fun y hy=>by
   have hne:y≠x:=fun e=>n1 (e ▸ hy)
   exact (List.mem_erase_of_ne hne).mpr (h y (List.mem_cons_of_mem _ hy))
  rw [List.length_erase_of_mem hx] at this
  have:=List.length_pos_of_mem hx
  rw [List.length_cons]
  omega
end
end GM
namespace GM
theorem CrewR.fn2 {W W':WR} (hW:∀ c b o o',W c b o→W' c b o'→o=o') {b:Int} {n c:Nat} {st:PSt} {r:Option Nat} {st1:PSt} (h:CrewR W b n c st r st1):∀ {r' st2},CrewR W' b n c st r' st2→r=r'∧st1=st2:=by
 induction h with
 | done=>
  intro r' st2 h2
  cases h2 with
  | done=>exact ⟨rfl,rfl⟩
  | stop h _=>exact absurd h (Nat.lt_irrefl _)
  | go h _ _=>exact absurd h (Nat.lt_irrefl _)
 | stop hc w=>
  intro r' st2 h2
  cases h2 with
  | done=>exact absurd hc (Nat.lt_irrefl _)
  | stop _ _=>exact ⟨rfl,rfl⟩
  | go _ w2 _=>exact absurd (hW _ _ _ _ w w2) (by simp)
 | go hc w _ ih=>
  intro r' st2 h2
  cases h2 with
  | done=>exact absurd hc (Nat.lt_irrefl _)
  | stop _ w2=>exact absurd (hW _ _ _ _ w w2) (by simp)
  | go _ w2 h2=>
   cases hW _ _ _ _ w w2
   exact ih h2
theorem RoomR.fn2 {W W':WR} (hW:∀ c b o o',W c b o→W' c b o'→o=o') {n pl:Nat} {st:PSt} {r:Option (Int × Nat)} {st1:PSt} (h:RoomR W n pl st r st1):∀ {r' st2},RoomR W' n pl st r' st2→r=r'∧st1=st2:=by
 induction h with
 | @out pl st hl=>
  have no:∀ {x},st[pl]?≠some x:=fun e=>absurd (List.getElem?_eq_some_iff.mp e).1 (by omega)
  intro r' st2 h2
  cases h2 with
  | out _=>exact ⟨rfl,rfl⟩
  | found e _=>exact absurd e no
  | next e _ _=>exact absurd e no
 | found e c=>
  intro r' st2 h2
  cases h2 with
  | out hl=>exact absurd (List.getElem?_eq_some_iff.mp e).1 (by omega)
  | found e2 c2=>
   rw [e] at e2
   cases e2
   obtain ⟨q1,q2⟩:=c.fn2 hW c2
   cases q1
   exact ⟨rfl,q2⟩
  | next e2 c2 _=>
   rw [e] at e2
   cases e2
   exact absurd (c.fn2 hW c2).1 (by simp)
 | next e c _ ih=>
  intro r' st2 h2
  cases h2 with
  | out hl=>exact absurd (List.getElem?_eq_some_iff.mp e).1 (by omega)
  | found e2 c2=>
   rw [e] at e2
   cases e2
   exact absurd (c.fn2 hW c2).1 (by simp)
  | next e2 c2 h2=>
   rw [e] at e2
   cases e2
   cases (c.fn2 hW c2).2
   exact ih h2
theorem Rw.fn {st:PSt} (nd:(st.map (·.1)).Nodup) {j:Nat} {row:List Int} (h:Rw st j row):∀ {row'},Rw st j row'→row=row':=by
 induction h with
 | base e=>
  intro row' h2
  cases h2 with
  | base e2=>rw [e] at e2;cases e2;rfl
  | step _ h _ _=>exact absurd h (Nat.not_lt_zero _)
 | @step i j m b' p r e hij e3 h ih=>
  intro row' h2
  cases h2 with
  | base e2=>exact absurd hij (Nat.not_lt_zero _)
  | @step i2 _ m2 b2 p2 r2 e2 _ e4 h2=>
   rw [e] at e2
   cases e2
   have:=q8z nd e3 e4
   subst this
   rw [ih h2]
theorem q6r:∀ {a b:List Int},a.Nodup→b.Nodup→a.Pairwise (·≤·)→b.Pairwise (·≤·)→(∀ x,x∈a↔x∈b)→a=b
 | [],[],_,_,_,_,_=>rfl
 | [],y::b,_,_,_,_,h=>absurd ((h y).mpr (by simp)) (by simp)
 | x::a,[],_,_,_,_,h=>absurd ((h x).mp (by simp)) (by simp)
 | x::a,y::b,na,nb,sa,sb,h=>by
  obtain ⟨na1,na2⟩:=List.nodup_cons.mp na
  obtain ⟨nb1,nb2⟩:=List.nodup_cons.mp nb
  obtain ⟨sa1,sa2⟩:=List.pairwise_cons.mp sa
  obtain ⟨sb1,sb2⟩:=List.pairwise_cons.mp sb
  have e:x=y:=by
   rcases List.mem_cons.mp ((h x).mp (by simp)) with q | q
   ·exact q
   ·rcases List.mem_cons.mp ((h y).mpr (by simp)) with q2 | q2
    ·exact q2.symm
    ·exact Int.le_antisymm (sa1 y q2) (sb1 x q)
  subst e
  rw [q6r na2 nb2 sa2 sb2 fun z=>?_]
  constructor
  ·intro hz
   rcases List.mem_cons.mp ((h z).mp (List.mem_cons_of_mem _ hz)) with q | q
   ·subst q;exact absurd hz na1
   ·exact q
  ·intro hz
   rcases List.mem_cons.mp ((h z).mpr (List.mem_cons_of_mem _ hz)) with q | q
   ·subst q;exact absurd hz nb1
   ·exact q
theorem q8k:∀ {a b:List (List Int)},(a.map (·.headD 0)).Pairwise (· < ·)→(b.map (·.headD 0)).Pairwise (· < ·)→(∀ x,x∈a↔x∈b)→a=b
 | [],[],_,_,_=>rfl
 | [],y::b,_,_,h=>absurd ((h y).mpr (by simp)) (by simp)
 | x::a,[],_,_,h=>absurd ((h x).mp (by simp)) (by simp)
 | x::a,y::b,sa,sb,h=>by
  rw [List.map_cons] at sa sb
  obtain ⟨sa1,sa2⟩:=List.pairwise_cons.mp sa
  obtain ⟨sb1,sb2⟩:=List.pairwise_cons.mp sb
  have la:∀ z∈a,x.headD 0 < z.headD 0:=fun z hz=>sa1 _ (List.mem_map.mpr ⟨z,hz,rfl⟩)
  have lb:∀ z∈b,y.headD 0 < z.headD 0:=fun z hz=>sb1 _ (List.mem_map.mpr ⟨z,hz,rfl⟩)
  have e:x=y:=by
   rcases List.mem_cons.mp ((h x).mp (by simp)) with q | q
   ·exact q
   ·rcases List.mem_cons.mp ((h y).mpr (by simp)) with q2 | q2
    ·exact q2.symm
    ·have h1:=la y q2
     have h2:=lb x q
     omega
  subst e
  rw [q8k sa2 sb2 fun z=>?_]
  constructor
  ·intro hz
   rcases List.mem_cons.mp ((h z).mp (List.mem_cons_of_mem _ hz)) with q | q
   ·subst q;have:=la z hz;omega
   ·exact q
  ·intro hz
   rcases List.mem_cons.mp ((h z).mpr (List.mem_cons_of_mem _ hz)) with q | q
   ·subst q;have:=lb z hz;omega
   ·exact q
section
variable {E:Int→Int × Int}
theorem mrg_one {huds mss mss':List (List Int)} {qs qs' m m':List Int} (hq:∀ x,x∈qs↔x∈qs') (M:Mrg huds qs mss m) (M':Mrg huds qs' mss' m') (o:(mss.map (·.headD 0)).Pairwise (· < ·)) (o':(mss'.map (·.headD 0)).Pairwise (· < ·)):mss=mss':=by
 have hm:∀ g,mts g qs=mts g qs':=fun g=>by
  rw [Bool.eq_iff_iff,mts_iff,mts_iff]
  exact ⟨fun ⟨x,h1,h2⟩=>⟨x,h1,(hq x).mp h2⟩,fun ⟨x,h1,h2⟩=>⟨x,h1,(hq x).mpr h2⟩⟩
 have e:m=m':=q6r M.nd M'.nd M.rise M'.rise fun x=>by
  rw [M.mem,M'.mem,hq]
  simp only [hm]
 subst e
 refine q8k o o' fun x=>?_
 rw [M.perm.mem_iff,M'.perm.mem_iff]
 simp only [hm]
end
end GM
namespace GM
section
variable {E:Int→Int × Int} {N n r:Nat}
theorem z0s:∀ (k:Nat) (d:Int→Option Nat),Dl E N n d→N≤cnt N d+k→∃ m,Mx E N n m
 | 0,d,hd,h=>⟨cnt N d,⟨d,hd,rfl⟩,fun d' _=>Nat.le_trans (cnt_le d') h⟩
 | k+1,d,hd,h=>by
  by_cases q:∃ d',Dl E N n d'∧cnt N d < cnt N d'
  ·obtain ⟨d',hd',hl⟩:=q
   exact z0s k d' hd' (by omega)
  ·exact ⟨cnt N d,⟨d,hd,rfl⟩,fun d' hd'=>Nat.le_of_not_lt fun z=>q ⟨d',hd',z⟩⟩
theorem mx_ex (E:Int→Int × Int) (N n:Nat):∃ m,Mx E N n m:=
 z0s N (fun _=>none) ⟨fun b k e=>(by cases e),fun b k e=>(by cases e),fun c b hb=>(by cases hb)⟩ (Nat.le_add_left _ _)
def Ends (E:Int→Int × Int) (N q:Nat):Prop:=∀ b:Int,0≤b→b < (N:Int)→(0≤(E b).1∧(E b).1 < (q:Int))∧(0≤(E b).2∧(E b).2 < (q:Int))
theorem Mx.ub (hE:Ends E N (r+1)):∀ {n m:Nat},Mx E N n m→m≤n*r
 | 0,m,h=>by rw [h.one mx_zero];exact Nat.zero_le _
 | n+1,m,h=>by
  obtain ⟨m0,h0⟩:=mx_ex E N n
  have h1:=Mx.ub hE h0
  have h2:=Mx.more (Nat.succ_pos r) hE h0 h
  rw [Nat.succ_mul]
  omega
variable {J C:Nat}
theorem q9h {f:Nat→Nat}:∀ {n:Nat},(∀ c,c < n→f c≤r)→(sumN f n=n*r↔∀ c,c < n→f c=r)
 | 0,_=>⟨fun _ c hc=>absurd hc (Nat.not_lt_zero _),fun _=>by simp [sumN]⟩
 | n+1,h=>by
  have ih:=q9h (f:=f) (n:=n) fun c hc=>h c (by omega)
  have h1:=h n (by omega)
  have h2:sumN f n≤n*r:=by
   have:=z0f (f:=f) (g:=fun _=>r) (n:=n) fun c hc=>h c (by omega)
   rwa [q3i] at this
  rw [sumN,Nat.succ_mul]
  constructor
  ·intro e c hc
   rcases Nat.lt_succ_iff_lt_or_eq.mp hc with z | z
   ·exact (ih.mp (by omega)) c z
   ·subst z;omega
  ·intro e
   have:=ih.mpr fun c hc=>e c (by omega)
   have:=e n (by omega)
   omega
theorem crew_le (hE:Ends E N (r+1)) {d:Int→Option Nat} (hd:Dl E N n d) (k:Nat):((allB N).filter fun b=>d b == some k).length≤r:=by
 have h2:=q4f (E:=E) (U:=allB (r+1)) (q0w _) (fun z=>by have:=congrArg List.length z;rw [q1n] at this;simp at this) (es:=(allB N).filter fun b=>d b == some k) ((q0w N).filter _) ((hd.fo k).mono fun b hb=>by have:=(List.mem_filter.mp hb).2;simpa [Fc] using this) fun b hb=>by
  obtain ⟨e1,e2⟩:=mem_allB.mp (List.mem_filter.mp hb).1
  obtain ⟨f1,f2⟩:=hE b e1 e2
  exact ⟨mem_allB.mpr f1,mem_allB.mpr f2⟩
 rw [q1n] at h2
 omega
theorem cnt_full (hE:Ends E N (r+1)) {d:Int→Option Nat} (hd:Dl E N n d):cnt N d=n*r↔∀ k,k < n→((allB N).filter fun b=>d b == some k).length=r:=by
 have h1:=z0w (Bs:=allB N) (d:=d) (n:=n) (fun b _ k e=>hd.lt b k e) (fun _=>true)
 simp only [Bool.and_true] at h1
 unfold cnt
 rw [h1]
 exact q9h fun k _=>crew_le hE hd k
end
end GM
namespace GM
section
variable {E:Int→Int × Int} {N n r:Nat} {q:Int} {cof:Int→Option Nat} {huds:List (List Int)}
theorem sum_less {l:List (List Int)} (h:∀ g∈l,1≤g.length):(l.map fun g=>g.length - 1).sum+l.length=l.flatten.length:=by
 induction l with
 | nil=>rfl
 | cons a t ih=>
  have h1:=ih fun g hg=>h g (List.mem_cons_of_mem _ hg)
  have h2:=h a List.mem_cons_self
  rw [List.map_cons,List.sum_cons,List.flatten_cons,List.length_append,List.length_cons]
  omega
theorem DI.flat_le (D:DI E n q N cof huds) (hq:q=(r:Int)+1):huds.flatten.length≤r+1:=by
 have h2:=nd_len huds.flatten (allB (r+1)) D.nd fun x hx=>by
  obtain ⟨g,hg,hxg⟩:=List.mem_flatten.mp hx
  have:=D.qr g hg x hxg
  exact mem_allB.mpr ⟨this.1,by omega⟩
 rwa [q1n] at h2
theorem DI.few (D:DI E n q N cof huds) (hq:q=(r:Int)+1) (hlt:cnt N cof < n*r):((allB N).filter fun b=>!huds.any fun g=>wi E g b).length < n*(huds.length+(r+1 - huds.flatten.length) - 1):=by
 have hs:∀ (k:Nat) (l:List (List Int)),(l.map fun g=>k*(g.length - 1)).sum=k*(l.map fun g=>g.length - 1).sum:=fun k l=>by
  induction l with
  | nil=>simp
  | cons a t ih=>rw [List.map_cons,List.map_cons,List.sum_cons,List.sum_cons,ih,Nat.mul_add]
 have h1:cnt N cof=((allB N).filter fun b=>!huds.any fun g=>wi E g b).length+n*(huds.map fun g=>g.length - 1).sum:=by
  unfold cnt
  rw [D.count (q0w N) fun b=>mem_allB]
  unfold z0a
  rw [hs]
 have h2:=sum_less fun g hg=>Nat.le_trans (by decide) (D.two g hg)
 have h3:=D.flat_le hq
 have h4:1≤huds.length+(r+1 - huds.flatten.length):=by
  cases huds with
  | nil=>simp
  | cons a t=>rw [List.length_cons];omega
 have e:huds.length+(r+1 - huds.flatten.length) - 1+(huds.map fun g=>g.length - 1).sum=r:=by omega
 rw [← e,Nat.mul_add] at hlt
 omega
end
end GM
namespace GM
section
variable {E:Int→Int × Int} {N n:Nat}
end
end GM
namespace GM
section
variable {E:Int→Int × Int} {N n:Nat}
end
end GM
namespace GM
end GM
namespace GM
section
variable {ι:Type} {I:ι→Prop} {k b b':ι→Nat} {x y x' y':Nat}
end
section
variable {E:Int→Int × Int} {N n:Nat}
end
end GM
namespace GM
section
variable {E:Int→Int × Int}
inductive DealL (E:Int→Int × Int) (n:Nat) (WP:(Int→Option Nat)→WR→Prop):List Int→(Int→Option Nat)→List (List Int)→Prop
 | start:DealL E n WP [] (fun _=>none) []
 | skip {ds:List Int} {i:Int} {cof:Int→Option Nat} {huds:List (List Int)}:DealL E n WP ds cof huds→(huds.any fun g=>wi E g i)=true→DealL E n WP (ds++[i]) cof huds
 | hud {ds:List Int} {i:Int} {cof:Int→Option Nat} {huds mss:List (List Int)} {m qs:List Int} {W:WR} {st:PSt}:DealL E n WP ds cof huds→(huds.any fun g=>wi E g i)=false→WP cof W→RoomR W n 0 [(i,none)] none st→EndsOf E st qs→Mrg huds qs mss m→DealL E n WP (ds++[i]) cof mss
 | room {ds:List Int} {i:Int} {pl:Nat} {cof:Int→Option Nat} {huds:List (List Int)} {W:WR} {st:PSt} {b:Int} {p:Option Int} {c:Nat} {r:List Int}:DealL E n WP ds cof huds→(huds.any fun g=>wi E g i)=false→WP cof W→RoomR W n 0 [(i,none)] (some (b,c)) st→RI W n i pl (pl+1) st→st[pl]?=some (b,p)→c < n→W c b none→Rw st pl (b::r)→DealL E n WP (ds++[i]) (shf cof c (b::r)) huds
structure DJ (E:Int→Int × Int) (n:Nat) (q:Int) (ds:List Int) (cof:Int→Option Nat) (huds:List (List Int)):Prop where
 fo:∀ c,Forest E (Fc cof c)
 lt:∀ b k,cof b=some k→k < n
 rng:∀ b k,cof b=some k→b∈ds
 hu:∀ g∈huds,Hu E n cof fun x=>x∈g
 rise:∀ g∈huds,g.Pairwise (·≤·)
 two:∀ g∈huds,2≤g.length
 nd:huds.flatten.Nodup
 qr:∀ g∈huds,∀ x∈g,0≤x∧x < q
 left:∀ b:Int,b∈ds→cof b=none→(huds.any fun g=>wi E g b)=true
 und:∀ g∈huds,∃ b:Int,b∈ds∧cof b=none∧wi E g b=true
 ordr:(huds.map (·.headD 0)).Pairwise (· < ·)
theorem q9q {ds:List Int} {i b:Int} (h:b∈ds++[i]):b∈ds∨b=i:=by
 rcases List.mem_append.mp h with h | h
 ·exact .inl h
 ·exact .inr (List.mem_singleton.mp h)
theorem q2j {ds:List Int} {i b:Int} (h:b∈ds):b∈ds++[i]:=List.mem_append_left _ h
theorem q91 {ds:List Int} {i:Int}:i∈ds++[i]:=List.mem_append_right _ (List.mem_singleton.mpr rfl)
theorem DealL.dj {n N:Nat} {q:Int} {WP:(Int→Option Nat)→WR→Prop} (hE:∀ b:Int,0≤b→b < (N:Int)→(0≤(E b).1∧(E b).1 < q)∧(0≤(E b).2∧(E b).2 < q)∧(E b).1≠(E b).2)
  (hWP:∀ cof W,WP cof W→(∀ c,Forest E (Fc cof c))→(∀ b k,cof b=some k→0≤b∧b < (N:Int))→WOk E cof W)
  {ds:List Int} {cof:Int→Option Nat} {huds:List (List Int)} (h:DealL E n WP ds cof huds):ds.Nodup→(∀ b∈ds,0≤b∧b < (N:Int))→DJ E n q ds cof huds:=by
 induction h with
 | start=>
  intro _ _
  have no:∀ {g:List Int},g∈([]:List (List Int))→False:=fun h=>by cases h
  exact ⟨fun c b hb=>(by cases hb),fun b k hb=>(by cases hb),fun b k hb=>(by cases hb),fun g hg=>(no hg).elim,fun g hg=>(no hg).elim,fun g hg=>(no hg).elim,by simp,fun g hg=>(no hg).elim,fun b h0 _=>(by cases h0),fun g hg=>(no hg).elim,by simp⟩
 | @skip ds i cof huds _ hs ih=>
  intro hnd hN
  have nd1:ds.Nodup:=(List.nodup_append.mp hnd).1
  have ni:i ∉ ds:=fun z=>(List.nodup_append.mp hnd).2.2 i z i (List.mem_singleton.mpr rfl) rfl
  have hNi:=hN i q91
  have hN1:∀ b∈ds,0≤b∧b < (N:Int):=fun b hb=>hN b (q2j hb)
  have D:=ih nd1 hN1
  refine ⟨D.fo,D.lt,fun b k e=>q2j (D.rng b k e),D.hu,D.rise,D.two,D.nd,D.qr,fun b h0 e=>?_,fun g hg=>let ⟨b,h0,h2⟩:=D.und g hg;⟨b,q2j h0,h2⟩,D.ordr⟩
  rcases q9q h0 with h | rfl
  ·exact D.left b h e
  ·exact hs
 | @hud ds i cof huds mss m qs W st _ hs hwp hroom hqs M ih=>
  intro hnd hN
  have nd1:ds.Nodup:=(List.nodup_append.mp hnd).1
  have ni:i ∉ ds:=fun z=>(List.nodup_append.mp hnd).2.2 i z i (List.mem_singleton.mpr rfl) rfl
  have hNi:=hN i q91
  have hN1:∀ b∈ds,0≤b∧b < (N:Int):=fun b hb=>hN b (q2j hb)
  have D:=ih nd1 hN1
  have hW:=hWP cof W hwp D.fo fun b k e=>hN1 b (D.rng b k e)
  obtain ⟨pl,hl,R⟩:=(RI.room hroom (b0:=i) RI.init).1 rfl
  have hqU:Hu E n cof fun x=>x∈qs:=room_hu hW R hl hqs
  have hfirst:i∈st.map (·.1):=List.mem_map.mpr ⟨_,List.mem_of_getElem? R.first,rfl⟩
  have hst:∀ b∈st.map (·.1),0≤b∧b < (N:Int):=fun b hb=>by
   obtain ⟨j,p,hj⟩:=q99 hb
   cases p with
   | none=>
    have e:=R.non j b hj
    subst e
    rw [R.first] at hj
    cases hj
    exact hNi
   | some b'=>
    obtain ⟨_,_,c,ms,_,_,_,_,hw,hm⟩:=R.par j b b' hj
    exact hN1 b (D.rng b c ((hW.some c b' ms hw).1 b hm).1)
  obtain ⟨e1,e2,e3⟩:=hE i hNi.1 hNi.2
  have s1:(E i).1∈qs:=(hqs _).mpr ⟨_,hfirst,.inl rfl⟩
  have s2:(E i).2∈qs:=(hqs _).mpr ⟨_,hfirst,.inr rfl⟩
  have qsr:∀ x∈qs,0≤x∧x < q:=fun x hx=>by
   obtain ⟨b,hb,h⟩:=(hqs x).mp hx
   obtain ⟨h0,h1⟩:=hst b hb
   obtain ⟨f1,f2,_⟩:=hE b h0 h1
   rcases h with h | h <;> rw [h]
   ·exact f1
   ·exact f2
  have mU:Hu E n cof fun x=>x∈m:=by
   intro c hc
   have up:∀ {U:Int→Prop} {x y:Int},(∀ z,U z→z∈m)→Cn E (fun e=>Fc cof c e∧U (E e).1∧U (E e).2) x y→Cn E (fun e=>Fc cof c e∧(E e).1∈m∧(E e).2∈m) x y:=fun hz h=>h.mono fun e he=>⟨he.1,hz _ he.2.1,hz _ he.2.2⟩
   have q2m:∀ z,z∈qs→z∈m:=fun z hz=>(M.mem z).mpr (.inl hz)
   have go:∀ x∈m,Cn E (fun e=>Fc cof c e∧(E e).1∈m∧(E e).2∈m) (E i).1 x:=fun x hx=>by
    rcases (M.mem x).mp hx with h | ⟨g,hg,hm,hxg⟩
    ·exact up q2m (hqU c hc _ x s1 h)
    ·obtain ⟨y,hy1,hy2⟩:=mts_iff.mp hm
     exact (up q2m (hqU c hc _ y s1 hy2)).trans (up (fun z hz=>(M.mem z).mpr (.inr ⟨g,hg,hm,hz⟩)) (D.hu g hg c hc y x hy1 hxg))
   exact fun x y hx hy=>(go x hx).symm.trans (go y hy)
  have cases_:∀ g∈mss,(g∈huds∧mts g qs=false)∨g=m:=fun g hg=>by
   rcases List.mem_append.mp (M.perm.mem_iff.mp hg) with h | h
   ·have:=List.mem_filter.mp h
    exact .inl ⟨this.1,by simpa using this.2⟩
   ·exact .inr (List.mem_singleton.mp h)
  have mmem:m∈mss:=M.perm.mem_iff.mpr (by simp)
  have hndm:mss.flatten.Nodup:=by
   refine (List.Perm.nodup_iff (List.Perm.flatten M.perm)).mpr ?_
   rw [List.flatten_append]
   refine List.nodup_append.mpr ⟨q5g D.nd _,by simpa using M.nd,fun a ha c hc e=>?_⟩
   subst e
   have hc:a∈m:=by simpa using hc
   rcases (M.mem a).mp hc with h | ⟨g,hg,hm,hag⟩
   ·obtain ⟨z,hz,haz⟩:=List.mem_flatten.mp ha
    have h1:=(List.mem_filter.mp hz).2
    have h2:mts z qs=true:=mts_iff.mpr ⟨a,haz,h⟩
    rw [h2] at h1
    cases h1
   ·exact q83 D.nd (fun g=>mts g qs) hg hm hag ha
  have htwo:∀ g∈mss,2≤g.length:=fun g hg=>by
   rcases cases_ g hg with ⟨h,_⟩ | h
   ·exact D.two g h
   ·rw [h]
    exact len2 ((M.mem _).mpr (.inl s1)) ((M.mem _).mpr (.inl s2)) e3
  refine ⟨D.fo,D.lt,fun b k e=>q2j (D.rng b k e),fun g hg=>?_,fun g hg=>?_,htwo,hndm,fun g hg=>?_,fun b h0 e=>?_,fun g hg=>?_,M.ord hndm fun g hg e=>by have:=htwo g hg;rw [e] at this;simp at this⟩
  ·rcases cases_ g hg with ⟨h,_⟩ | h
   ·exact D.hu g h
   ·rw [h];exact mU
  ·rcases cases_ g hg with ⟨h,_⟩ | h
   ·exact D.rise g h
   ·rw [h];exact M.rise
  ·rcases cases_ g hg with ⟨h,_⟩ | h
   ·exact D.qr g h
   ·rw [h]
    intro x hx
    rcases (M.mem x).mp hx with h | ⟨g',hg',_,hxg⟩
    ·exact qsr x h
    ·exact D.qr g' hg' x hxg
  ·rcases (q9q h0).symm with qe | h0
   ·refine List.any_eq_true.mpr ⟨m,mmem,?_⟩
    rw [qe]
    unfold wi
    simp only [Bool.and_eq_true,List.contains_iff_mem]
    exact ⟨(M.mem _).mpr (.inl s1),(M.mem _).mpr (.inl s2)⟩
   ·refine z1z (fun g hg=>?_) (D.left b h0 e)
    cases hm:mts g qs with
    | true=>exact ⟨m,mmem,fun x hx=>(M.mem x).mpr (.inr ⟨g,hg,hm,hx⟩)⟩
    | false=>exact ⟨g,M.perm.mem_iff.mpr (List.mem_append_left _ (List.mem_filter.mpr ⟨hg,by rw [hm];rfl⟩)),fun x hx=>hx⟩
  ·rcases cases_ g hg with ⟨h,_⟩ | h
   ·obtain ⟨b,h0,h2⟩:=D.und g h
    exact ⟨b,q2j h0,h2⟩
   ·refine ⟨i,q91,?_,?_⟩
    ·cases e:cof i with
     | none=>rfl
     | some k=>exact absurd (D.rng _ k e) ni
    ·rw [h]
     unfold wi
     simp only [Bool.and_eq_true,List.contains_iff_mem]
     exact ⟨(M.mem _).mpr (.inl s1),(M.mem _).mpr (.inl s2)⟩
 | @room ds i pl cof huds W st b p c r _ hs hwp hroom R hb hc hw hr ih=>
  intro hnd hN
  have nd1:ds.Nodup:=(List.nodup_append.mp hnd).1
  have ni:i ∉ ds:=fun z=>(List.nodup_append.mp hnd).2.2 i z i (List.mem_singleton.mpr rfl) rfl
  have hNi:=hN i q91
  have hN1:∀ b∈ds,0≤b∧b < (N:Int):=fun b hb=>hN b (q2j hb)
  have D:=ih nd1 hN1
  have hW:=hWP cof W hwp D.fo fun b k e=>hN1 b (D.rng b k e)
  have h0:cof i=none:=by
   cases e:cof i with
   | none=>rfl
   | some k=>exact absurd (D.rng _ k e) ni
  have A:=z1y hW D.fo h0 R hb hc hw hr
  have hrow:∀ x∈b::r,x=i∨(cof x).isSome=true:=fun x hx=>by
   obtain ⟨j,p',_,hj⟩:=hr.ix x hx
   cases p' with
   | none=>
    have e:=R.non j x hj
    subst e
    rw [R.first] at hj
    cases hj
    exact .inl rfl
   | some b'=>
    obtain ⟨_,_,c',ms,_,_,_,_,hw',hm⟩:=R.par j x b' hj
    have:=((hW.some c' b' ms hw').1 x hm).1
    exact .inr (by rw [this];rfl)
  have hi_in:i∈b::r:=by
   obtain ⟨pre,x,e⟩:∃ pre x,b::r=pre++[x]:=⟨(b::r).dropLast,(b::r).getLast (by simp),(List.dropLast_concat_getLast _).symm⟩
   have:=hr.last pre x e
   rw [R.first] at this
   cases this
   rw [e]
   simp
  refine ⟨q4s _ hc A,shf_lt _ hc D.lt,fun x k e=>?_,fun g hg=>aug_hu hc A (D.hu g hg),D.rise,D.two,D.nd,D.qr,fun x h1 e=>?_,fun g hg=>?_,D.ordr⟩
  ·by_cases hx:x∈b::r
   ·rcases hrow x hx with q | q
    ·rw [q];exact q91
    ·obtain ⟨k',hk'⟩:=Option.isSome_iff_exists.mp q
     exact q2j (D.rng x k' hk')
   ·rw [q2y _ hx] at e
    exact q2j (D.rng x k e)
  ·by_cases hx:x∈b::r
   ·have:=shf_in (b::r) (cof:=cof) (c:=c) hx
    rw [e] at this
    cases this
   ·rw [q2y _ hx] at e
    rcases q9q h1 with h1 | q
    ·exact D.left x h1 e
    ·exact absurd (q ▸ hi_in) hx
  ·obtain ⟨x,h1,h3,h4⟩:=D.und g hg
   refine ⟨x,q2j h1,?_,h4⟩
   rw [q2y _ fun hx=>?_]
   ·exact h3
   ·obtain ⟨pre,post,eq⟩:=List.append_of_mem hx
    unfold wi at h4
    simp only [Bool.and_eq_true,List.contains_iff_mem] at h4
    exact z0j hc A (D.hu g hg) pre x post eq h4
end
end GM
namespace GM
section
variable {E:Int→Int × Int} {n N:Nat} {q:Int} {WP:(Int→Option Nat)→WR→Prop}
theorem q20 {ds ds':List Int} {i i':Int} (e:ds'++[i']=ds++[i]):ds'=ds∧i'=i:=by
 obtain ⟨h1,h2⟩:=List.append_inj' e rfl
 exact ⟨h1,by simpa using h2⟩
theorem DealL.fn (hE:∀ b:Int,0≤b→b < (N:Int)→(0≤(E b).1∧(E b).1 < q)∧(0≤(E b).2∧(E b).2 < q)∧(E b).1≠(E b).2)
  (hWP:∀ cof W,WP cof W→(∀ c,Forest E (Fc cof c))→(∀ b k,cof b=some k→0≤b∧b < (N:Int))→WOk E cof W)
  (hWf:∀ cof W W',WP cof W→WP cof W'→(∀ c,Forest E (Fc cof c))→∀ c b o o',W c b o→W' c b o'→o=o')
  {ds:List Int} {cof:Int→Option Nat} {huds:List (List Int)} (h1:DealL E n WP ds cof huds):∀ {ds':List Int} {cof':Int→Option Nat} {huds':List (List Int)},DealL E n WP ds' cof' huds'→ds'=ds→ds.Nodup→(∀ b∈ds,0≤b∧b < (N:Int))→cof=cof'∧huds=huds':=by
 induction h1 with
 | start=>
  intro ds' cof' huds' h2 e _ _
  cases h2 with
  | start=>exact ⟨rfl,rfl⟩
  | skip _ _=>simp at e
  | hud _ _ _ _ _ _=>simp at e
  | room _ _ _ _ _ _ _ _ _=>simp at e
 | @skip ds i cof huds a1 s1 ih=>
  intro ds' cof' huds' h2 e nd hN
  have nd1:ds.Nodup:=(List.nodup_append.mp nd).1
  have hN1:∀ b∈ds,0≤b∧b < (N:Int):=fun b hb=>hN b (q2j hb)
  cases h2 with
  | start=>simp at e
  | skip a2 s2=>
   obtain ⟨rfl,rfl⟩:=q20 e
   exact ih a2 rfl nd1 hN1
  | hud a2 s2 _ _ _ _=>
   obtain ⟨rfl,rfl⟩:=q20 e
   obtain ⟨rfl,rfl⟩:=ih a2 rfl nd1 hN1
   rw [s1] at s2;cases s2
  | room a2 s2 _ _ _ _ _ _ _=>
   obtain ⟨rfl,rfl⟩:=q20 e
   obtain ⟨rfl,rfl⟩:=ih a2 rfl nd1 hN1
   rw [s1] at s2;cases s2
 | @hud ds i cof huds mss m qs W st a1 s1 w1 r1 q1 m1 ih=>
  intro ds' cof' huds' h2 e nd hN
  have nd1:ds.Nodup:=(List.nodup_append.mp nd).1
  have hN1:∀ b∈ds,0≤b∧b < (N:Int):=fun b hb=>hN b (q2j hb)
  have D:=DealL.dj hE hWP a1 nd1 hN1
  have D1:=DealL.dj hE hWP (DealL.hud a1 s1 w1 r1 q1 m1) nd hN
  have D2:=DealL.dj hE hWP h2 (by rw [e];exact nd) (by rw [e];exact hN)
  cases h2 with
  | start=>simp at e
  | skip a2 s2=>
   obtain ⟨rfl,rfl⟩:=q20 e
   obtain ⟨rfl,rfl⟩:=ih a2 rfl nd1 hN1
   rw [s1] at s2;cases s2
  | hud a2 s2 w2 r2 q2 m2=>
   obtain ⟨rfl,rfl⟩:=q20 e
   obtain ⟨rfl,rfl⟩:=ih a2 rfl nd1 hN1
   obtain ⟨_,rfl⟩:=r1.fn2 (hWf _ _ _ w1 w2 D.fo) r2
   exact ⟨rfl,mrg_one (fun x=>(q1 x).trans (q2 x).symm) m1 m2 D1.ordr D2.ordr⟩
  | room a2 s2 w2 r2 _ _ _ _ _=>
   obtain ⟨rfl,rfl⟩:=q20 e
   obtain ⟨rfl,rfl⟩:=ih a2 rfl nd1 hN1
   have:=(r1.fn2 (hWf _ _ _ w1 w2 D.fo) r2).1
   cases this
 | @room ds i pl cof huds W st b p c r a1 s1 w1 r1 R1 b1 c1 k1 row1 ih=>
  intro ds' cof' huds' h2 e nd hN
  have nd1:ds.Nodup:=(List.nodup_append.mp nd).1
  have hN1:∀ b∈ds,0≤b∧b < (N:Int):=fun b hb=>hN b (q2j hb)
  have D:=DealL.dj hE hWP a1 nd1 hN1
  cases h2 with
  | start=>simp at e
  | skip a2 s2=>
   obtain ⟨rfl,rfl⟩:=q20 e
   obtain ⟨rfl,rfl⟩:=ih a2 rfl nd1 hN1
   rw [s1] at s2;cases s2
  | hud a2 s2 w2 r2 q2 m2=>
   obtain ⟨rfl,rfl⟩:=q20 e
   obtain ⟨rfl,rfl⟩:=ih a2 rfl nd1 hN1
   have:=(r1.fn2 (hWf _ _ _ w1 w2 D.fo) r2).1
   cases this
  | room a2 s2 w2 r2 R2 b2 c2 k2 row2=>
   obtain ⟨rfl,rfl⟩:=q20 e
   obtain ⟨rfl,rfl⟩:=ih a2 rfl nd1 hN1
   obtain ⟨e1,rfl⟩:=r1.fn2 (hWf _ _ _ w1 w2 D.fo) r2
   cases e1
   have:=q8z R1.nd b1 b2
   subst this
   have:=row1.fn R1.nd row2
   cases this
   exact ⟨rfl,rfl⟩
end
end GM
namespace GM
theorem q88 (N:Nat):allB (N+1)=allB N++[(N:Int)]:=by
 unfold allB
 rw [List.range_succ,List.map_append]
 rfl
theorem DealL.rl {E:Int→Int × Int} {n:Nat} {WP:(Int→Option Nat)→WR→Prop} {ds:List Int} {cof:Int→Option Nat} {huds:List (List Int)} (h:DealL E n WP ds cof huds):∀ N,ds=allB N→DealR E n WP N cof huds:=by
 have last:∀ {ds:List Int} {i:Int} {N:Nat},ds++[i]=allB N→∃ M,N=M+1∧ds=allB M∧i=(M:Int):=fun {ds i N} e=>by
  cases N with
  | zero=>simp [allB] at e
  | succ M=>
   rw [q88] at e
   obtain ⟨h1,h2⟩:=q20 e
   exact ⟨M,rfl,h1,h2⟩
 induction h with
 | start=>
  intro N e
  cases N with
  | zero=>exact .start
  | succ M=>rw [q88] at e;simp at e
 | skip _ s ih=>
  intro N e
  obtain ⟨M,rfl,e1,rfl⟩:=last e
  exact .skip (ih M e1) s
 | hud _ s w r q m ih=>
  intro N e
  obtain ⟨M,rfl,e1,rfl⟩:=last e
  exact .hud (ih M e1) s w r q m
 | room _ s w r R b c k row ih=>
  intro N e
  obtain ⟨M,rfl,e1,rfl⟩:=last e
  exact .room (ih M e1) s w r R b c k row
end GM
namespace GM
def wg (ws:List Int) (b:Int):Int:=ws.getD b.toNat 0
def rowOf (ws:List Int) (x:Int):List Int:=(allB ws.length).filter fun b=>decide (wg ws b=x)
def q22 (ws os:List Int):List (List Int):=os.map (rowOf ws)
theorem mem_rowOf {ws:List Int} {x b:Int}:b∈rowOf ws x↔(0≤b∧b < (ws.length:Int))∧wg ws b=x:=by
 unfold rowOf
 rw [List.mem_filter,mem_allB,decide_eq_true_eq]
theorem mem_rows {ws os:List Int} {b:Int}:b∈(q22 ws os).flatten↔(0≤b∧b < (ws.length:Int))∧wg ws b∈os:=by
 unfold q22
 rw [List.mem_flatten]
 constructor
 ·rintro ⟨g,hg,hb⟩
  obtain ⟨x,hx,rfl⟩:=List.mem_map.mp hg
  obtain ⟨h1,h2⟩:=mem_rowOf.mp hb
  exact ⟨h1,h2 ▸ hx⟩
 ·rintro ⟨h1,h2⟩
  exact ⟨_,List.mem_map.mpr ⟨_,h2,rfl⟩,mem_rowOf.mpr ⟨h1,rfl⟩⟩
theorem z0e {ws:List Int}:∀ {os:List Int},os.Nodup→(q22 ws os).flatten.Nodup
 | [],_=>by simp [q22]
 | x::t,h=>by
  obtain ⟨n1,n2⟩:=List.nodup_cons.mp h
  show (rowOf ws x++(q22 ws t).flatten).Nodup
  refine List.nodup_append.mpr ⟨(q0w _).filter _,z0e n2,fun a ha c hc e=>?_⟩
  subst e
  rw [← (mem_rowOf.mp ha).2] at n1
  exact n1 (mem_rows.mp hc).2
theorem rows_take (ws os:List Int) (k:Nat):(q22 ws os).take k=q22 ws (os.take k):=by
 unfold q22
 rw [List.map_take]
section
variable {E:Int→Int × Int} {n:Nat} {q:Int} {WP:(Int→Option Nat)→WR→Prop} {ws os:List Int}
variable (hE:∀ b:Int,0≤b→b < (ws.length:Int)→(0≤(E b).1∧(E b).1 < q)∧(0≤(E b).2∧(E b).2 < q)∧(E b).1≠(E b).2)
  (hWP:∀ cof W,WP cof W→(∀ c,Forest E (Fc cof c))→(∀ b k,cof b=some k→0≤b∧b < (ws.length:Int))→WOk E cof W)
include hE hWP
end
end GM
namespace GM
section
variable {E E':Int→Int × Int} {ws:List Int} {n:Nat}
end
end GM
namespace K28
open PySem L2 XM
def top (i:Nat):Stmt:=PySem.Challenge.pw_bridgecrews_k28_no_wages.main.body.getD i (.Pass ⟨0,0,0,0⟩)
abbrev sIsq:Stmt:=top 19
abbrev sJoin:Stmt:=top 20
abbrev q6j:Stmt:=top 22
abbrev q68:Stmt:=top 27
abbrev q6s:Stmt:=top 28
abbrev q3k:Stmt:=top 30
abbrev q9n:Stmt:=top 32
abbrev q3v:Stmt:=top 34
abbrev q3f:Stmt:=top 35
abbrev q2q:Stmt:=top 36
abbrev q42:Stmt:=top 37
abbrev q3g:Stmt:=top 38
abbrev q74:Stmt:=top 40
abbrev q2u:Stmt:=top 42
abbrev q3x:Stmt:=top 43
abbrev sLaw:Stmt:=top 59
abbrev q23:Stmt:=top 21
abbrev q6u:Stmt:=top 29
abbrev z02:Stmt:=top 39
abbrev q2w:Stmt:=top 44
abbrev q45:Stmt:=top 23
abbrev q2v:Stmt:=top 24
abbrev q41:Stmt:=top 25
abbrev q5s:Stmt:=top 46
abbrev z0d:Stmt:=top 47
abbrev q3z:Stmt:=top 48
abbrev q31:Stmt:=top 49
abbrev q2e:Stmt:=top 50
abbrev q3j:Stmt:=top 54
abbrev q6h:Stmt:=top 55
abbrev sTown:Stmt:=top 56
abbrev sWord:Stmt:=top 57
abbrev q4u:Stmt:=top 58
abbrev sInit:Stmt:=q9j (top 52) 0
abbrev q3l:Stmt:=q9j (top 7) 0
abbrev q3e:Stmt:=q9j (top 6) 0
def P2 (H:Hp) (x:V) (p:Int × Int):Prop:=∃ a,x=.ref a∧H a=some (.tup [.int p.1,.int p.2])
abbrev PV (H:Hp):List V→PP→Prop:=All2 (P2 H)
theorem PV.mono {H H':Hp} {xs:List V} {ps:PP} (s:∀ b ys,H b=some (.tup ys)→H' b=some (.tup ys)) (h:PV H xs ps):PV H' xs ps:=
 All2.imp (fun _ _ ⟨a,e,q⟩=>⟨a,e,s a _ q⟩) h
theorem PV.same {H H':Hp} {xs:List V} {ps:PP} (s:Same H H') (h:PV H xs ps):PV H' xs ps:=h.mono fun b ys e=>s b _ e
abbrev LI (H:Hp) (l:Addr) (ns:List Int):Prop:=H l=some (.lst (ns.map V.int))
def L1 (H:Hp) (x:V) (ns:List Int):Prop:=∃ a,x=.ref a∧LI H a ns
abbrev LS (H:Hp):List V→List (List Int)→Prop:=All2 (L1 H)
theorem LS.same {H H':Hp} {xs:List V} {nss:List (List Int)} (s:Same H H') (h:LS H xs nss):LS H' xs nss:=All2.imp (fun _ _ ⟨a,e,q⟩=>⟨a,e,s a _ q⟩) h
structure Txt (K:W.Frag) (mg:Str→Option Value) (CE CS CQ CT:Addr):Prop where
 mgCE:mg "CrewError" = some (.ref CE)
 mgTS:mg "BadWages" = some (.ref CS)
 mgTL:mg "BadCount" = some (.ref CQ)
 mgT:mg "Town" = some (.ref CT)
 errS:Err K CS "ValueError" "ValueError.__new__" "ValueError.__init__" [.type "ValueError",.type "Exception",.type "BaseException",.type "object"]
 errL:Err K CQ "ValueError" "ValueError.__new__" "ValueError.__init__" [.type "ValueError",.type "Exception",.type "BaseException",.type "object"]
 askS:ErrA K CS
 askL:ErrA K CQ
 nmE:Named K CE
 subS:W.mroIn K CS (.ref CE)=some true
 subL:W.mroIn K CQ (.ref CE)=some true
 sV:W.kitOne K (.ref CS) (.type "ValueError")=some true
 lV:W.kitOne K (.ref CQ) (.type "ValueError")=some true
 sL:W.kitOne K (.ref CS) (.ref CQ)=some false
 lS:W.kitOne K (.ref CQ) (.ref CS)=some false
 eight:∃ a1 a2 a3 a4 a5 a6 a7 a8,mg "BadDealing" = some (.ref a1)∧mg "BadDeed" = some (.ref a2)∧mg "BadLimits" = some (.ref a3)∧mg "BadParting" = some (.ref a4)∧mg "BadQuarters" = some (.ref a5)∧mg "BadSome" = some (.ref a6)∧mg "BadText" = some (.ref a7)∧mg "BadTown" = some (.ref a8)∧W.kitAny K (.ref CS) [.ref a1,.ref a2,.ref a3,.ref a4,.ref a5,.ref a6,.ref a7,.ref a8]=some false∧W.kitAny K (.ref CQ) [.ref a1,.ref a2,.ref a3,.ref a4,.ref a5,.ref a6,.ref a7,.ref a8]=some false
 three:∃ b1 b2 b3,mg "BadTree" = some (.ref b1)∧mg "TooLarge" = some (.ref b2)∧mg "TooSmall" = some (.ref b3)∧W.kitAny K (.ref CS) [.ref b1,.ref b2,.ref b3]=some false∧W.kitAny K (.ref CQ) [.ref b1,.ref b2,.ref b3]=some false
 cl:Cls K CT
 nq:NoAttr K CT "quarters"
 nb:NoAttr K CT "bridges"
 mq:∃ t,mg "MOST_QUARTERS" = some (.int 24 t)
 mb:∃ t,mg "MOST_BRIDGES" = some (.int 60 t)
 mc:∃ t,mg "MOST_CREWS" = some (.int 60 t)
 len:mg "len" = none
 list:mg "list" = none
 range:mg "range" = none
 isi:mg "isinstance" = none
 int:mg "int" = none
 bool:mg "bool" = none
 all:mg "all" = none
 any:mg "any" = none
 zip:mg "zip" = none
 set:mg "set" = none
 sorted:mg "sorted" = none
 enum:mg "enumerate" = none
 tuple:mg "tuple" = none
 sum:mg "sum" = none
 max:mg "max" = none
 min:mg "min" = none
 reversed:mg "reversed" = none
 verr:mg "ValueError" = none
section
variable {P:Program} {w:World} {K:W.Frag} {mg:Str→Option Value} {base:Heap} {CE CS CQ CT:Addr}
theorem z1b:bootBuiltins "all" = some (.builtin "all"):=by decide +kernel
theorem boot_sum:bootBuiltins "sum" = some (.builtin "sum"):=by decide +kernel
theorem q4k:bootBuiltins "set" = some (.type "set"):=by decide +kernel
theorem q1v:bootBuiltins "sorted" = some (.builtin "sorted"):=by decide +kernel
theorem z0o:bootBuiltins "max" = some (.builtin "max"):=by decide +kernel
theorem q1b:bootBuiltins "isinstance" = some (.builtin "isinstance"):=by decide +kernel
theorem q39:bootBuiltins "list" = some (.type "list"):=by decide +kernel
theorem q8i:bootBuiltins "ValueError" = some (.type "ValueError"):=by decide +kernel
theorem q4g {α β:Type} {xs:List α} {f:α→β} {i:Nat} {x:α} (h:xs[i]?=some x):(xs.take (i+1)).map f=(xs.take i).map f++[f x]:=by
 rw [List.take_add_one,h,List.map_append]
 rfl
theorem q0m {α:Type} {xs:List α} {i:Nat} {x:α} (h:xs[i]?=some x):xs.take (i+1)=xs.take i++[x]:=by
 rw [List.take_add_one,h]
 rfl
def q71 (ns:List Int):Bool:=(ns.zip ns.tail).all fun p=>decide (p.1 < p.2)
def inR (c n:Int):Bool:=decide (0≤n) && decide (n < c)
def q4n (ns:List Int) (c:Int):Bool:=q71 ns && ns.all (inR c)
theorem dec_nat {a b:Nat}:decide (V.int (a:Int)=V.int (b:Int))=decide (a=b):=decide_eq_decide.mpr ⟨fun e=>by cases e;omega,fun e=>by rw [e]⟩
theorem q25 {a b:Int}:decide (V.int a=V.int b)=decide (a=b):=decide_eq_decide.mpr ⟨fun e=>by cases e;rfl,fun e=>by rw [e]⟩
inductive spIsqI  (vs:List V) (H:Hp) (Q:VK) (E:XK):Prop
 | mk (a q:_):(vs=[.int a,.int q])→(Q (.bl (decide (0≤a) && decide (a < q))) H)→spIsqI  vs H Q E
def spIsq  : Sp:=fun vs H Q E=>spIsqI  vs H Q E
theorem scIsq:FnScope ["number", "quarters"] ["number", "quarters"] (q03 sIsq):=⟨rfl,rfl,rfl,by decide +kernel,rfl,by decide +kernel,by decide +kernel⟩
theorem ok_isq {f:Addr} {fd:FuncData} (F:Fun K "is_quarter" "is_quarter" sIsq f fd):FnOk P w K mg base CX0 1 f fd ["number", "quarters"] spIsq:=by
 refine F.ok scIsq (fun vs H Q E h=>?_) (fun cdv A outer s H vs Q E hr h=>?_)
 ·obtain ⟨a,q,rfl,_⟩:=h
  rfl
 ·obtain ⟨a,q,rfl,k⟩:=h
  refine ⟨_,q06 (q0i (z1n z0l op_lt q07 (pv 0) (pv 1))),?_⟩
  try dsimp only [cx_of,cx_nox,cx_comp]
  refine ⟨_,rfl,_,_,rfl,rfl,_,rfl,?_⟩
  by_cases h:0≤a
  ·rw [decide_eq_true h] at k ⊢
   exact iteT ⟨_,rfl,_,_,rfl,rfl,k⟩
  ·rw [decide_eq_false h] at k ⊢
   exact iteF k
inductive spJoinI  (vs:List V) (H:Hp) (Q:VK) (E:XK):Prop
 | mk (a b q:_):(vs=[.int a,.int b,.int q])→(Q (.bl (q0z q (a,b))) H)→spJoinI  vs H Q E
def spJoin  : Sp:=fun vs H Q E=>spJoinI  vs H Q E
theorem scJoin:FnScope ["one", "other", "quarters"] ["one", "other", "quarters"] (q03 sJoin):=⟨rfl,rfl,rfl,by decide +kernel,rfl,by decide +kernel,by decide +kernel⟩
theorem ok_join {f f1:Addr} {fd fd1:FuncData} (F:Fun K "joins_two" "joins_two" sJoin f fd) (F1:Fun K "is_quarter" "is_quarter" sIsq f1 fd1) (b1:Binds K fd1 ["number", "quarters"] []) (m1:mg "is_quarter" = some (.ref f1)) :
  FnOk P w K mg base CX0 2 f fd ["one", "other", "quarters"] spJoin:=by
 have G1:FnOk P w K mg base CX0 1 f1 fd1 ["number", "quarters"] spIsq:=ok_isq F1
 refine F.ok scJoin (fun vs H Q E h=>?_) (fun cdv A outer s H vs Q E hr h=>?_)
 ·obtain ⟨a,b,q,rfl,_⟩:=h
  rfl
 ·obtain ⟨a,b,q,rfl,k⟩:=h
  refine ⟨_,q06 (q0i (z18 (q0h G1 hr (by rfl) m1 F1.kp b1 .nil q1a (q00 (pv 0) (q00 (pv 2) q04)))
   (z18 (q0h G1 hr (by rfl) m1 F1.kp b1 .nil q1a (q00 (pv 1) (q00 (pv 2) q04))) (pe_one (q4q op_ne (pv 0) (pv 1) (q0u _)))))),?_⟩
  try dsimp only [cx_of,cx_nox,cx_comp]
  refine ⟨_,rfl,_,rfl,a,q,rfl,_,rfl,?_⟩
  unfold q0z at k
  dsimp only at k
  cases h1:(decide (0≤a) && decide (a < q)) with
  | false=>
   rw [h1] at k
   exact iteF k
  | true=>
   rw [h1] at k
   refine iteT ⟨_,rfl,_,rfl,b,q,rfl,_,rfl,?_⟩
   cases h2:(decide (0≤b) && decide (b < q)) with
   | false=>
    rw [h2] at k
    exact iteF k
   | true=>
    rw [h2] at k
    refine iteT ⟨_,rfl,_,rfl,rfl,?_⟩
    have e:decide (V.int a=V.int b)=decide (a=b):=by simp
    rw [e]
    exact k
inductive spCheckI  (vs:List V) (H:Hp) (Q:VK) (E:XK):Prop
 | mk (q:Int) (l:Addr) (xs:List V) (ps:PP):(vs=[.int q,.ref l])→(H l=some (.lst xs))→(PV H xs ps)→(fits q ps=true)→(Q .non H)→spCheckI  vs H Q E
def spCheck  : Sp:=fun vs H Q E=>spCheckI  vs H Q E
theorem scCheck:FnScope ["quarters", "bridges", "one", "other"] ["quarters", "bridges"] (q03 q6j):=⟨rfl,rfl,rfl,by decide +kernel,rfl,by decide +kernel,by decide +kernel⟩
theorem q1z {q:Int} {ps:PP} (h:fits q ps=true):(1≤q∧q≤24)∧ps.length≤60∧∀ p∈ps,q0z q p=true:=by
 unfold fits at h
 simp only [Bool.and_eq_true,decide_eq_true_eq,List.all_eq_true] at h
 exact ⟨h.1,h.2.1,h.2.2⟩
theorem ok_check {f f1:Addr} {fd fd1:FuncData} (T:Txt K mg CE CS CQ CT) (F:Fun K "check_town" "check_town" q6j f fd) (G1:FnOk P w K mg base CX0 2 f1 fd1 ["one", "other", "quarters"] spJoin) (b1:Binds K fd1 ["one", "other", "quarters"] []) (m1:mg "joins_two" = some (.ref f1)) (k1:W.keepIn K (.ref f1)=true) :
  FnOk P w K mg base CX0 3 f fd ["quarters", "bridges"] spCheck:=by
 obtain ⟨t24,m24⟩:=T.mq
 obtain ⟨t60,m60⟩:=T.mb
 refine F.ok scCheck (fun vs H Q E h=>?_) (fun cdv A outer s H vs Q E hr h=>?_)
 ·obtain ⟨q,l,xs,ps,rfl,_⟩:=h
  rfl
 ·obtain ⟨q,l,xs,ps,rfl,hl,hp,hf,kQ⟩:=h
  obtain ⟨⟨h1,h2⟩,h3,h4⟩:=q1z hf
  refine ⟨_,q02 (q11 (q32 (z1k z0l z0l q07 (pv 0) (q0l (v:=.int 24) (by rfl) m24 ⟨_,rfl⟩))) (q06 q78) q0f)
   (q02 (q11 (q0p op_gt (q0b q48 (by rfl) T.len PySem.boot_len (q00 (pv 1) q04)) (q0l (v:=.int 60) (by rfl) m60 ⟨_,rfl⟩) (q0u _)) (q06 q78) q0f)
   (q06 (q21 PassesOwn.never rfl (q19 (pv 1)) (q8c rfl (q1w (q0k (i:=2) scCheck.nd rfl (Or.inl rfl)) (q1w (q0k (i:=3) scCheck.nd rfl (Or.inl rfl)) q5l)))
    (q06 (q11 (q32 (q1t (q0h G1 hr (by rfl) m1 k1 b1 .nil q1a (q00 (pv 2) (q00 (pv 3) (q00 (pv 0) q04)))))) (q06 q78) q0f))))),?_⟩
  try dsimp only [cx_of,cx_nox,cx_comp]
  have hlen:=hp.length
  refine ⟨_,rfl,_,_,rfl,rfl,_,rfl,?_⟩
  rw [decide_eq_true h1]
  refine iteT ⟨_,_,rfl,rfl,_,rfl,?_⟩
  rw [decide_eq_true h2]
  refine iteF ⟨_,rfl,l,xs,rfl,.inl (SqL.of hl),_,_,rfl,rfl,_,rfl,?_⟩
  rw [decide_eq_false (show ¬ (60:Int) < (xs.length:Int) by omega)]
  refine iteF ⟨_,rfl,l,rfl,⟨_,SqL.of hl⟩,q1x (K:=K) (a:=l) (xs:=xs) (fun i σ H2=>H2=H∧∃ u v,σ=[some (.int q),some (.ref l),u,v])
   ⟨rfl,_,_,rfl⟩ (fun i σ H2 _ ⟨e,_⟩=>by subst e;exact SqL.of hl) ?_ ?_⟩
  ·rintro i x σ H2 hi ⟨rfl,u,v,rfl⟩
   obtain ⟨p,hpi,a,rfl,hat⟩:=hp.get hi
   refine ⟨a,_,rfl,SqT.of hat,rfl,_,_,rfl,_,_,rfl,rfl,_,rfl,_,rfl,_,rfl,p.1,p.2,q,rfl,_,rfl,?_⟩
   rw [h4 p (List.mem_of_getElem? hpi)]
   exact iteF ⟨rfl,_,_,rfl⟩
  ·rintro σ H2 ⟨rfl,u,v,rfl⟩
   exact kQ
theorem qb:¬ (("quarters" : Str) = "bridges"):=by decide +kernel
def flds (q:Int) (l:Addr):List (Str × V):=putF "bridges" (.ref l) (putF "quarters" (.int q) [])
theorem flds_q (q:Int) (l:Addr):(flds q l).lookup ("quarters" : Str)=some (.int q):=by
 unfold flds
 rw [q2b,if_neg qb,q2b,if_pos rfl]
theorem q5m (q:Int) (l:Addr):(flds q l).lookup ("bridges" : Str)=some (.ref l):=by
 unfold flds
 rw [q2b,if_pos rfl]
def TownAt (CT:Addr) (H:Hp) (p l:Addr) (q:Int) (xs:List V):Prop:=(∃ dx,H p=some (.ins CT dx (flds q l)))∧H l=some (.lst xs)
theorem TownAt.same {H H':Hp} {p l:Addr} {q:Int} {xs:List V} (h:TownAt CT H p l q xs) (s:Same H H'):TownAt CT H' p l q xs:=⟨let ⟨dx,e⟩:=h.1;⟨dx,s _ _ e⟩,s _ _ h.2⟩
inductive spInitI (CT:Addr) (vs:List V) (H:Hp) (Q:VK) (E:XK):Prop
 | mk (p dx:Addr) (q:Int) (l:Addr) (xs:List V) (ps:PP):(vs=[.ref p,.int q,.ref l])→(H p=some (.ins CT dx []))→(H l=some (.lst xs))→(PV H xs ps)→(fits q ps=true)→(∀ (l2:Addr) (H':Hp),H l2=none→TownAt CT H' p l2 q xs→(∀ b o,H b=some o→b≠p→H' b=some o)→Q .non H')→spInitI CT vs H Q E
def spInit (CT:Addr):Sp:=fun vs H Q E=>spInitI CT vs H Q E
theorem scInit:FnScope ["self", "quarters", "bridges"] ["self", "quarters", "bridges"] (q03 sInit):=⟨rfl,rfl,rfl,by decide +kernel,rfl,by decide +kernel,by decide +kernel⟩
theorem ok_init {f f1:Addr} {fd fd1:FuncData} (T:Txt K mg CE CS CQ CT) (F:Fun K "__init__" "Town.__init__" sInit f fd) (G1:FnOk P w K mg base CX0 3 f1 fd1 ["quarters", "bridges"] spCheck) (b1:Binds K fd1 ["quarters", "bridges"] []) (m1:mg "check_town" = some (.ref f1)) (k1:W.keepIn K (.ref f1)=true) :
  FnOk P w K mg base CX0 4 f fd ["self", "quarters", "bridges"] (spInit CT):=by
 refine F.ok scInit (fun vs H Q E h=>?_) (fun cdv A outer s H vs Q E hr h=>?_)
 ·obtain ⟨p,dx,q,l,xs,ps,rfl,_⟩:=h
  rfl
 ·obtain ⟨p,dx,q,l,xs,ps,rfl,hp,hl,hv,hf,kQ⟩:=h
  refine ⟨_,q02 (q0q (q0h G1 hr (by rfl) m1 k1 b1 .nil q1a (q00 (pv 1) (q00 (pv 2) q04))))
   (q02 (ps_fld (pv 0) (pv 1) rfl)
   (q06 (ps_fld (pv 0) (q1h q5d (by rfl) T.list q39 (q00 (pv 2) q04)) rfl))),?_⟩
  try dsimp only [cx_of,cx_nox,cx_comp]
  refine ⟨_,rfl,_,rfl,q,l,xs,ps,rfl,hl,hv,hf,?_⟩
  have npl:p≠l:=q5q hp hl (by intro z;cases z)
  refine ⟨_,rfl,_,rfl,p,CT,dx,_,rfl,hp,T.cl,T.nq,(by show 0 < 1000;decide),?_⟩
  refine ⟨_,rfl,l,xs,rfl,.inl (SqL.of (by rw [q08 npl.symm];exact hl)),fun l2 hn=>?_⟩
  have np2:p≠l2:=q05 q01 hn
  have hn':H l2=none:=by rw [q08 np2.symm] at hn;exact hn
  refine ⟨_,rfl,p,CT,dx,_,rfl,(by rw [q08 np2];exact q01),T.cl,T.nb,(by show 1 < 1000;decide),?_⟩
  refine kQ l2 _ hn' ⟨⟨dx,q01⟩,by rw [q08 np2.symm,q01]⟩ fun b o e hb=>?_
  rw [q08 hb,q08 (q05 e hn'),q08 hb]
  exact e
end
end K28
namespace K28
open PySem L2 XM
def upto (q:Int):List Int:=(List.range q.toNat).map fun k=>((k:Nat):Int)
theorem mem_upto {q x:Int}:x∈upto q↔0≤x∧x < q:=by
 unfold upto
 rw [List.mem_map]
 constructor
 ·rintro ⟨k,hk,rfl⟩
  have:=List.mem_range.mp hk
  omega
 ·rintro ⟨h1,h2⟩
  exact ⟨x.toNat,List.mem_range.mpr (by omega),by omega⟩
theorem q7c (q:Int):(upto q).length=q.toNat:=by unfold upto;simp
theorem inR_iff {c n:Int}:inR c n=true↔0≤n∧n < c:=by
 unfold inR
 rw [Bool.and_eq_true,decide_eq_true_eq,decide_eq_true_eq]
theorem q1c:∀ (l r:List Int),l.Nodup→(∀ x∈l,x∈r)→l.length≤r.length
 | [],r,_,_=>Nat.zero_le _
 | a::l,r,hn,hs=>by
  obtain ⟨ha,hl⟩:=List.nodup_cons.mp hn
  have har:a∈r:=hs a List.mem_cons_self
  have hlen:(r.erase a).length=r.length - 1:=List.length_erase_of_mem har
  have hpos:0 < r.length:=List.length_pos_of_mem har
  have ih:=q1c l (r.erase a) hl fun y hy=>by
   refine (List.mem_erase_of_ne fun z=>?_).mpr (hs y (List.mem_cons_of_mem _ hy))
   subst z
   exact ha hy
  rw [List.length_cons]
  omega
theorem q2d {ps:PP} {i:Nat} {p:Int × Int} (h:ps[i]?=some p):ps.getD i (0,0)=p:=by rw [List.getD_eq_getElem?_getD,h];rfl
theorem q55 (n:Int):∀ ns:List Int,inV (.int n) (ns.map V.int)=ns.contains n
 | []=>rfl
 | m::r=>by
  have:=q55 n r
  unfold inV at this ⊢
  rw [List.map_cons,List.any_cons,this,List.contains_cons]
  show ((m == n) || _)=((n == m) || _)
  rw [Bool.beq_comm]
theorem q49:∀ ns:List Int,(ns.map V.int).all q7d=true
 | []=>rfl
 | m::r=>by
  rw [List.map_cons,List.all_cons,q49 r]
  rfl
theorem q34 (nss:List (List Int)) (i:Nat):(nss.take i).flatten.length≤nss.flatten.length:=by
 have e:nss.flatten=(nss.take i).flatten++(nss.drop i).flatten:=by rw [← List.flatten_append,List.take_append_drop]
 rw [e,List.length_append]
 omega
theorem q6n:∀ l:List Int,q71 l=true↔l.Pairwise (· < ·)
 | []=>by simp [q71]
 | [a]=>by simp [q71]
 | a::b::r=>by
  have ih:=q6n (b::r)
  have e:q71 (a::b::r)=(decide (a < b) && q71 (b::r)):=rfl
  have pc:(a::b::r).Pairwise (· < ·)↔(∀ x∈b::r,a < x)∧(b::r).Pairwise (· < ·):=List.pairwise_cons
  rw [e,Bool.and_eq_true,decide_eq_true_eq,ih,pc]
  constructor
  ·rintro ⟨h1,h2⟩
   refine ⟨fun x hx=>?_,h2⟩
   rcases List.mem_cons.mp hx with rfl | hx
   ·exact h1
   ·have:=(List.pairwise_cons.mp h2).1 x hx
    omega
  ·rintro ⟨h1,h2⟩
   exact ⟨h1 b List.mem_cons_self,h2⟩
theorem risesB_iff {l:List Int} {m:Int}:q4n l m=true↔l.Pairwise (· < ·)∧∀ x∈l,0≤x∧x < m:=by
 unfold q4n
 rw [Bool.and_eq_true,q6n,List.all_eq_true]
 exact and_congr_right fun _=>⟨fun h x hx=>inR_iff.mp (h x hx),fun h x hx=>inR_iff.mpr (h x hx)⟩
def q2r (a q:Int):List (List Int)→Bool
 | []=>true
 | g::r=>(q4n g q && (!decide (g=[]) && decide (a < g.headD 0))) && q2r (g.headD 0) q r
theorem partsFrom_iff {q:Int}:∀ {nss:List (List Int)} {a:Int},q2r a q nss=true↔(∀ g∈nss,q4n g q=true∧g≠[])∧(nss.map (·.headD 0)).Pairwise (· < ·)∧∀ g∈nss,a < g.headD 0
 | [],a=>by simp [q2r]
 | g::r,a=>by
  have ih:=@partsFrom_iff q r (g.headD 0)
  have e:q2r a q (g::r)=((q4n g q && (!decide (g=[]) && decide (a < g.headD 0))) && q2r (g.headD 0) q r):=rfl
  rw [e,Bool.and_eq_true,Bool.and_eq_true,Bool.and_eq_true,decide_eq_true_eq,ih,List.map_cons,List.pairwise_cons]
  have ed:(!decide (g=[]))=true↔g≠[]:=by simp
  rw [ed]
  constructor
  ·rintro ⟨⟨h1,h2,h3⟩,h4,h5,h6⟩
   refine ⟨fun x hx=>?_,⟨fun x hx=>?_,h5⟩,fun x hx=>?_⟩
   ·rcases List.mem_cons.mp hx with rfl | hx
    ·exact ⟨h1,h2⟩
    ·exact h4 x hx
   ·obtain ⟨y,hy,rfl⟩:=List.mem_map.mp hx
    exact h6 y hy
   ·rcases List.mem_cons.mp hx with rfl | hx
    ·exact h3
    ·have:=h6 x hx
     omega
  ·rintro ⟨h1,⟨h2,h3⟩,h4⟩
   obtain ⟨a1,a2⟩:=h1 g List.mem_cons_self
   exact ⟨⟨a1,a2,h4 g List.mem_cons_self⟩,fun x hx=>h1 x (List.mem_cons_of_mem _ hx),h3,fun x hx=>h2 _ (List.mem_map.mpr ⟨x,hx,rfl⟩)⟩
theorem head_in {g:List Int} {q:Int} (h:q4n g q=true) (hn:g≠[]):0≤g.headD 0∧g.headD 0 < q:=by
 cases g with
 | nil=>exact absurd rfl hn
 | cons a r=>exact (risesB_iff.mp h).2 a List.mem_cons_self
theorem q6v {n:Nat} {k:Nat} (h:k < n):ixN n (k:Int)=some k:=by
 unfold ixN
 rw [if_pos (by omega),if_pos (by omega)]
 simp
section
variable {P:Program} {w:World} {K:W.Frag} {mg:Str→Option Value} {base:Heap} {CE CS CQ CT:Addr}
theorem q54 (t:Value):W.kitOne K t t=some true:=by
 unfold W.kitOne
 rw [if_pos (by simp)]
theorem q1m {H:Hp} {l:Addr} {ns:List Int} (hl:LI H l ns):Den K H (.ref l) (.list (ns.map .int)):=by
 refine .lst (SqL.of hl) (by rw [List.length_map,List.length_map]) fun i x d h1 h2=>?_
 rw [List.getElem?_map] at h1 h2
 cases e:ns[i]? with
 | none=>rw [e] at h1;cases h1
 | some n=>
  rw [e] at h1 h2
  cases h1
  cases h2
  exact .int _
theorem z0y:∀ ns:List Int,PyData.canLayAll0 (ns.map .int)=true∧PyData.depthAll (ns.map .int)=0
 | []=>by simp [PyData.canLayAll0,PyData.depthAll]
 | p::ps=>by
  obtain ⟨h1,h2⟩:=z0y ps
  rw [List.map_cons]
  simp [PyData.canLayAll0,PyData.depthAll,PyData.canLay0,PyData.depth,h1,h2]
theorem q26 (ns:List Int):SeqAt.shaped (.list (ns.map .int))=true:=by
 have h:=z0y ns
 unfold SeqAt.shaped
 rw [Bool.and_eq_true]
 refine ⟨by simp [PyData.canLay0,h.1],decide_eq_true ?_⟩
 have:=h.2
 simp only [PyData.depth]
 omega
theorem z1f:∀ ns ms:List Int,PyData.eqvAll (ns.map .int) (ms.map .int)=decide (ns=ms)
 | [],[]=>rfl
 | [],m::ms=>by simp [PyData.eqvAll]
 | n::ns,[]=>by simp [PyData.eqvAll]
 | n::ns,m::ms=>by
  have ih:=z1f ns ms
  rw [List.map_cons,List.map_cons,PyData.eqvAll,ih]
  rw [Bool.eq_iff_iff]
  simp [PyData.eqv]
theorem q2p (ns ms:List Int):PyData.eqv (.list (ns.map .int)) (.list (ms.map .int))=decide (ns=ms):=by
 rw [← z1f]
 simp [PyData.eqv]
end
end K28
namespace K28
open PySem L2 XM
def eb (ps:PP) (b:Int):Int × Int:=ps.getD b.toNat (0,0)
def add1 (L:Nat→PP) (k:Nat) (p:Int × Int):Nat→PP:=fun j=>if j=k then L j++[p] else L j
def stp (ps:PP):List Int→Nat→PP
 | []=>fun _=>[]
 | bs=>fun j=>bs.flatMap fun b=>(if (eb ps b).1=(j:Int) then [(b,(eb ps b).2)] else [])++(if (eb ps b).2=(j:Int) then [(b,(eb ps b).1)] else [])
theorem z0n (ps:PP) (bs:List Int) (j:Nat):stp ps bs j=bs.flatMap fun b=>(if (eb ps b).1=(j:Int) then [(b,(eb ps b).2)] else [])++(if (eb ps b).2=(j:Int) then [(b,(eb ps b).1)] else []):=by
 cases bs <;> rfl
theorem stp_snoc (ps:PP) (bs:List Int) (b:Int) (u v:Nat) (hu:(eb ps b).1=(u:Int)) (hv:(eb ps b).2=(v:Int)):stp ps (bs++[b])=add1 (add1 (stp ps bs) u (b,(eb ps b).2)) v (b,(eb ps b).1):=by
 funext j
 rw [z0n,List.flatMap_append,← z0n]
 unfold add1
 simp only [List.flatMap_cons,List.flatMap_nil,List.append_nil]
 rw [hu,hv]
 by_cases h1:j=u
 ·by_cases h2:j=v
  ·rw [if_pos h2,if_pos h1,if_pos (by omega),if_pos (by omega),List.append_assoc]
  ·rw [if_neg h2,if_pos h1,if_pos (by omega),if_neg (by omega),List.append_nil]
 ·by_cases h2:j=v
  ·rw [if_pos h2,if_neg h1,if_neg (by omega),if_pos (by omega),List.nil_append]
  ·rw [if_neg h2,if_neg h1,if_neg (by omega),if_neg (by omega)]
   simp
theorem mem_stp {ps:PP} {bs:List Int} {j:Nat} {b z:Int}:(b,z)∈stp ps bs j↔b∈bs∧(((eb ps b).1=(j:Int)∧z=(eb ps b).2)∨((eb ps b).2=(j:Int)∧z=(eb ps b).1)):=by
 rw [z0n,List.mem_flatMap]
 constructor
 ·rintro ⟨c,hc,h⟩
  rcases List.mem_append.mp h with h | h
  ·by_cases e:(eb ps c).1=(j:Int)
   ·rw [if_pos e,List.mem_singleton] at h
    cases h
    exact ⟨hc,.inl ⟨e,rfl⟩⟩
   ·rw [if_neg e] at h
    cases h
  ·by_cases e:(eb ps c).2=(j:Int)
   ·rw [if_pos e,List.mem_singleton] at h
    cases h
    exact ⟨hc,.inr ⟨e,rfl⟩⟩
   ·rw [if_neg e] at h
    cases h
 ·rintro ⟨hb,⟨e,rfl⟩ | ⟨e,rfl⟩⟩
  ·exact ⟨b,hb,List.mem_append_left _ (by rw [if_pos e];exact List.mem_singleton.mpr rfl)⟩
  ·exact ⟨b,hb,List.mem_append_right _ (by rw [if_pos e];exact List.mem_singleton.mpr rfl)⟩
structure StepsAt (H:Hp) (sa:Addr) (n:Nat) (L:Nat→PP):Prop where
 ex:∃ as:List Addr,H sa=some (.lst (as.map V.ref))∧as.length=n∧∀ (k:Nat) a,as[k]?=some a→∃ ts,H a=some (.lst ts)∧PV H ts (L k)
theorem StepsAt.same {H H':Hp} {sa:Addr} {n:Nat} {L:Nat→PP} (h:StepsAt H sa n L) (s:Same H H'):StepsAt H' sa n L:=by
 obtain ⟨as,h1,h2,h3⟩:=h.ex
 exact ⟨as,s _ _ h1,h2,fun k a e=>let ⟨ts,a1,a2⟩:=h3 k a e;⟨ts,s _ _ a1,a2.same s⟩⟩
structure SM (H H2:Hp) (sa:Addr) (as:List Addr) (n:Nat) (L:Nat→PP):Prop where
 same:Same H H2
 hp:H2 sa=some (.lst (as.map V.ref))
 len:as.length=n
 nd:as.Nodup
 fr:∀ a∈as,H a=none∧a≠sa
 ls:∀ (k:Nat) a,as[k]?=some a→∃ ts,H2 a=some (.lst ts)∧PV H2 ts (L k)
theorem SM.out {H H2:Hp} {sa:Addr} {as:List Addr} {n:Nat} {L:Nat→PP} (m:SM H H2 sa as n L):StepsAt H2 sa n L:=⟨as,m.hp,m.len,m.ls⟩
theorem SM.push {H H2:Hp} {sa:Addr} {as:List Addr} {n:Nat} {L:Nat→PP} {k:Nat} {a t:Addr} {ts:List V} {p:Int × Int} (m:SM H H2 sa as n L) (ha:as[k]?=some a) (hts:H2 a=some (.lst ts)) (hpv:PV H2 ts (L k)) (ht:H2 t=none) :
  SM H (upd (upd H2 t (.tup [.int p.1,.int p.2])) a (.lst (ts++[V.ref t]))) sa as n (add1 L k p):=by
 obtain ⟨fa,na⟩:=m.fr a (List.mem_of_getElem? ha)
 have nt:t≠a:=Ne.symm (q05 hts ht)
 have up:∀ b o,H2 b=some o→b≠a→(upd (upd H2 t (.tup [.int p.1,.int p.2])) a (.lst (ts++[V.ref t]))) b=some o:=fun b o e hb=>by
  rw [q08 hb,q08 (q05 e ht)]
  exact e
 have ups:∀ b ys,H2 b=some (.tup ys)→(upd (upd H2 t (.tup [.int p.1,.int p.2])) a (.lst (ts++[V.ref t]))) b=some (.tup ys):=fun b ys e=>up b _ e (q5q e hts (by intro z;cases z))
 refine ⟨fun b o e=>up b o (m.same _ _ e) (q05 e fa),up _ _ m.hp (Ne.symm na),m.len,m.nd,m.fr,fun j b hb=>?_⟩
 unfold add1
 by_cases e:j=k
 ·subst e
  rw [ha] at hb
  cases hb
  refine ⟨_,q01,?_⟩
  rw [if_pos rfl]
  refine All2.append (hpv.mono ups) (.cons ⟨t,rfl,?_⟩ .nil)
  rw [q08 nt]
  exact q01
 ·rw [if_neg e]
  obtain ⟨ts',h1,h2⟩:=m.ls j b hb
  have nb:b≠a:=fun z=>by
   subst z
   obtain ⟨i1,e1⟩:=List.getElem?_eq_some_iff.mp hb
   obtain ⟨i2,e2⟩:=List.getElem?_eq_some_iff.mp ha
   exact e ((List.getElem_inj m.nd).mp (e1.trans e2.symm))
  exact ⟨ts',up _ _ h1 nb,h2.mono ups⟩
section
variable {P:Program} {w:World} {K:W.Frag} {mg:Str→Option Value} {base:Heap} {CE CS CQ CT:Addr}
inductive spStepsI (CT:Addr) (vs:List V) (H:Hp) (Q:VK) (E:XK):Prop
 | mk (p l2:Addr) (q:Int) (ys:List V) (ps:PP) (l:Addr) (bs:List Int):(vs=[.ref p,.ref l])→(TownAt CT H p l2 q ys)→(PV H ys ps)→(fits q ps=true)→(LI H l bs)→(bs.length≤100)→((∀ b∈bs,0≤b∧b < ps.length))→(∀ (H':Hp) (sa:Addr),Same H H'→StepsAt H' sa q.toNat (stp ps bs)→Q (.ref sa) H')→spStepsI CT vs H Q E
def spSteps (CT:Addr):Sp:=fun vs H Q E=>spStepsI CT vs H Q E
theorem scSteps:FnScope ["town", "some", "steps", "bridge", "ends"] ["town", "some"] (q03 q68):=⟨rfl,rfl,rfl,by decide +kernel,rfl,by decide +kernel,by decide +kernel⟩
theorem ok_steps {f:Addr} {fd:FuncData} (T:Txt K mg CE CS CQ CT) (F:Fun K "steps_over" "steps_over" q68 f fd):FnOk P w K mg base CX0 1 f fd ["town", "some"] (spSteps CT):=by
 refine F.ok scSteps (fun vs H Q E h=>?_) (fun cdv A outer s H vs Q E hr h=>?_)
 ·obtain ⟨p,l2,q,ys,ps,l,bs,rfl,_⟩:=h
  rfl
 ·obtain ⟨p,l2,q,ys,ps,l,bs,rfl,⟨⟨dx,ht⟩,hl2⟩,hp,hft,hl,hbl,hbs,kQ⟩:=h
  have nd2:((["quarter"]:List Str)++([]:List Str)).Nodup:=by decide +kernel
  refine ⟨_,q02 (z0c (i:=2) (own:=["quarter"]) (caps:=[]) (cs:=[]) (sc:=q03 q68) ⟨rfl,rfl,by decide +kernel,by decide +kernel,by decide +kernel,by decide +kernel,rfl⟩ rfl scSteps.nd rfl rfl rfl
    (q1i (by rfl) T.range (q00 (q3q (pv 0) rfl) q04)) (fun _ _ _ _ _=>q0k (i:=0) nd2 rfl (Or.inl rfl) (.inr rfl)) (fun _ _ _ _ _=>q3c) (fun _ _ _ _ _=>q1q q04))
   (q02 (q21 PassesOwn.never rfl (q19 (pv 1)) (q0k (i:=3) scSteps.nd rfl (Or.inl rfl))
    (q02 (q0a (i:=4) scSteps.nd rfl (Or.inl rfl) (q0n q0g (q3q (pv 0) rfl) (pv 3) (fun _ _=>rfl)))
    (q02 (q0q (q3n PySem.F.plainAttrs_list PySem.F.slot_list_append PySem.F.type_list_append q15 (q0n q0g (pv 2) (q0n q18 (pv 4) q07 (fun _ _=>rfl)) (fun _ _=>rfl)) (q00 (q1u (q00 (pv 3) (q00 (q0n q18 (pv 4) q07 (fun _ _=>rfl)) q04))) q04)))
    (q06 (q0q (q3n PySem.F.plainAttrs_list PySem.F.slot_list_append PySem.F.type_list_append q15 (q0n q0g (pv 2) (q0n q18 (pv 4) q07 (fun _ _=>rfl)) (fun _ _=>rfl)) (q00 (q1u (q00 (pv 3) (q00 (q0n q18 (pv 4) q07 (fun _ _=>rfl)) q04))) q04)))))))
   (q06 (q0i (pv 2)))),?_⟩
  try dsimp only [cx_of,cx_nox,cx_comp]
  obtain ⟨⟨hq1,hq2⟩,h60,hok⟩:=q1z hft
  have hlen:=hp.length
  refine ⟨_,rfl,p,CT,dx,_,_,rfl,ht,T.cl,T.nq,flds_q _ _,q,rfl,by omega,by omega,fun sa hsa=>?_⟩
  refine q4c (n:=q.toNat) (fun i zs H2=>∃ as,zs=as.map V.ref∧SM H H2 sa as i (fun _=>[])) ⟨[],rfl,Same.rfl'.new hsa,q01,rfl,List.nodup_nil,fun a z=>by simp at z,fun k a z=>by simp at z⟩ (fun i zs H2 hi hv=>?_) (fun i zs H2 hi hv=>?_) (fun zs H2 hv=>?_)
  ·obtain ⟨as,rfl,m⟩:=hv
   rw [List.length_map,m.len]
   exact q0c (by omega)
  ·obtain ⟨as,rfl,m⟩:=hv
   refine ⟨hi,fun K1 k1 x H' y=>?_⟩
   obtain ⟨rfl,rfl⟩:=y
   refine ⟨rfl,by show 0≤sizeLine;decide,fun a ha=>k1 _ _ ((Same.rfl'.new ha) _ _ m.hp) ⟨as++[a],by rw [List.map_append];rfl,?_⟩⟩
   have na:a≠sa:=Ne.symm (q05 m.hp ha)
   refine ⟨(m.same.tr (Same.rfl'.new ha)).new hsa,by rw [q01,List.map_append];rfl,by rw [List.length_append,m.len];rfl,?_,fun b hb=>?_,fun k b hb=>?_⟩
   ·refine List.nodup_append.mpr ⟨m.nd,by simp,fun x hx y hy z=>?_⟩
    rw [List.mem_singleton] at hy
    subst hy
    subst z
    obtain ⟨k,hk,e2⟩:=List.mem_iff_getElem.mp hx
    obtain ⟨ts,hts,_⟩:=m.ls k x (by rw [List.getElem?_eq_getElem hk,e2])
    rw [ha] at hts
    cases hts
   ·rcases List.mem_append.mp hb with hb | hb
    ·exact m.fr b hb
    ·rw [List.mem_singleton] at hb
     subst hb
     exact ⟨m.same.free ha,na⟩
   ·by_cases hk:k < as.length
    ·rw [List.getElem?_append_left hk] at hb
     obtain ⟨ts,hts,hpv⟩:=m.ls k b hb
     have nb:=(m.fr b (List.mem_of_getElem? hb)).2
     cases hpv
     exact ⟨[],by rw [q08 nb,q08 (q05 hts ha)];exact hts,.nil⟩
    ·rw [List.getElem?_append_right (by omega)] at hb
     have hk0:k - as.length=0:=by
      have:=(List.getElem?_eq_some_iff.mp hb).1
      simp at this
      exact this
     rw [hk0] at hb
     cases hb
     exact ⟨[],by rw [q08 na,q01],.nil⟩
  obtain ⟨as,rfl,m⟩:=hv
  refine ⟨Nat.le_refl _,?_⟩
  refine ⟨_,rfl,l,rfl,⟨_,SqL.of (m.same _ _ hl)⟩,q1x (K:=K) (a:=l) (xs:=bs.map V.int) (fun i σ H3=>SM H H3 sa as q.toNat (stp ps (bs.take i))∧∃ u v,σ=[some (.ref p),some (.ref l),some (.ref sa),u,v])
   ⟨m,_,_,rfl⟩ (fun i σ H3 _ ⟨m3,_⟩=>SqL.of (m3.same _ _ hl)) ?_ ?_⟩
  ·rintro i x σ H3 hi ⟨m3,u,v,rfl⟩
   rw [List.getElem?_map] at hi
   obtain ⟨b,hb,rfl⟩:=Option.map_eq_some_iff.mp hi
   obtain ⟨hb0,hb1⟩:=hbs b (List.mem_of_getElem? hb)
   have ebn:((b.toNat:Nat):Int)=b:=by omega
   have hbn:b.toNat < ys.length:=by omega
   obtain ⟨y,hy⟩:∃ y,ys[b.toNat]?=some y:=⟨_,List.getElem?_eq_getElem hbn⟩
   obtain ⟨pr,hpr,a,rfl,hat⟩:=hp.get hy
   have eeb:eb ps b=pr:=q2d hpr
   have okp:=hok pr (List.mem_of_getElem? hpr)
   unfold q0z at okp
   simp only [Bool.and_eq_true,decide_eq_true_eq] at okp
   obtain ⟨⟨p1,p2⟩,⟨p3,p4⟩,_⟩:=okp
   have e1:((pr.1.toNat:Nat):Int)=pr.1:=by omega
   have e2:((pr.2.toNat:Nat):Int)=pr.2:=by omega
   obtain ⟨a1,ha1⟩:∃ a1,as[pr.1.toNat]?=some a1:=⟨_,List.getElem?_eq_getElem (by rw [m3.len];omega)⟩
   obtain ⟨ts1,ht1,hv1⟩:=m3.ls _ a1 ha1
   have hm1:(as.map V.ref)[pr.1.toNat]?=some (.ref a1):=by rw [List.getElem?_map,ha1];rfl
   have sl:∀ k,(stp ps (bs.take i) k).length≤2*i:=fun k=>by
    rw [z0n]
    have hle:∀ cs:List Int,(cs.flatMap fun b=>(if (eb ps b).1=(k:Int) then [(b,(eb ps b).2)] else [])++(if (eb ps b).2=(k:Int) then [(b,(eb ps b).1)] else [])).length≤2*cs.length:=fun cs=>by
     induction cs with
     | nil=>simp
     | cons c r ih=>
      rw [List.flatMap_cons,List.length_append,List.length_append,List.length_cons]
      have h1:(if (eb ps c).1=(k:Int) then [(c,(eb ps c).2)] else []).length≤1:=by split <;> simp
      have h2:(if (eb ps c).2=(k:Int) then [(c,(eb ps c).1)] else []).length≤1:=by split <;> simp
      omega
    refine Nat.le_trans (hle _) ?_
    rw [List.length_take]
    omega
   have hil:i < bs.length:=(List.getElem?_eq_some_iff.mp hb).1
   refine ⟨_,rfl,p,CT,dx,_,_,rfl,m3.same _ _ ht,T.cl,T.nb,q5m _ _,_,rfl,l2,ys,_,V.ref a,rfl,rfl,SqL.of (m3.same _ _ hl2),by rw [← ebn];exact q09 hy,?_⟩
   have at3:=m3.same _ _ hat
   refine ⟨_,rfl,_,rfl,a,_,_,_,rfl,rfl,SqT.of at3,q09 (j:=0) rfl,sa,_,_,V.ref a1,rfl,rfl,SqL.of m3.hp,by rw [← e1];exact q09 hm1,.inl ⟨rfl,_,SqL.of ht1⟩,_,rfl,_,rfl,a,_,_,_,rfl,rfl,SqT.of at3,q09 (j:=1) rfl,by show 2≤sizeLine;decide,fun t ht'=>?_⟩
   have n1:t≠a1:=Ne.symm (q05 ht1 ht')
   refine ⟨a1,ts1,_,rfl,rfl,by rw [q08 (Ne.symm n1)];exact ht1,?_,?_⟩
   ·rw [hv1.length]
    have:=sl pr.1.toNat
    exact q0c (by omega)
   have m4:=m3.push (p:=(b,pr.2)) ha1 ht1 hv1 ht'
   obtain ⟨a2,ha2⟩:∃ a2,as[pr.2.toNat]?=some a2:=⟨_,List.getElem?_eq_getElem (by rw [m3.len];omega)⟩
   obtain ⟨ts2,ht2,hv2⟩:=m4.ls _ a2 ha2
   have hm2:(as.map V.ref)[pr.2.toNat]?=some (.ref a2):=by rw [List.getElem?_map,ha2];rfl
   have at4:=m4.same _ _ hat
   refine ⟨_,rfl,_,rfl,a,_,_,_,rfl,rfl,SqT.of at4,q09 (j:=1) rfl,sa,_,_,V.ref a2,rfl,rfl,SqL.of m4.hp,by rw [← e2];exact q09 hm2,.inl ⟨rfl,_,SqL.of ht2⟩,_,rfl,_,rfl,a,_,_,_,rfl,rfl,SqT.of at4,q09 (j:=0) rfl,by show 2≤sizeLine;decide,fun t2 ht2'=>?_⟩
   have n2:t2≠a2:=Ne.symm (q05 ht2 ht2')
   refine ⟨a2,ts2,_,rfl,rfl,by rw [q08 (Ne.symm n2)];exact ht2,?_,?_⟩
   ·rw [hv2.length]
    have h1:=sl pr.2.toNat
    unfold add1
    split
    ·rw [List.length_append,List.length_singleton]
     exact q0c (by omega)
    ·exact q0c (by omega)
   have m5:=m4.push (p:=(b,pr.1)) ha2 ht2 hv2 ht2'
   refine ⟨?_,_,_,rfl⟩
   rw [q0m hb,stp_snoc ps (bs.take i) b pr.1.toNat pr.2.toNat (by rw [eeb];exact e1.symm) (by rw [eeb];exact e2.symm),eeb]
   exact m5
  ·rintro σ H3 ⟨m3,u,v,rfl⟩
   rw [List.length_map,List.take_length] at m3
   exact ⟨_,rfl,kQ H3 sa m3.same m3.out⟩
end
end K28
namespace L2
open PySem
section
variable {κ:Type} [DecidableEq κ]
theorem q9u {kvs:List (κ × V)} {k:κ} (h:valV kvs k=none):¬ k∈kvs.map (·.1):=by
 intro m
 obtain ⟨p,hp,e⟩:=List.mem_map.mp m
 have q:(kvs.any fun kv=>decide (kv.1=k))=true:=List.any_eq_true.mpr ⟨p,hp,decide_eq_true e⟩
 rw [q28,h] at q
 exact absurd q (by simp)
theorem q5h {kvs:List (κ × V)} {k:κ} {v:V} (h:valV kvs k=some v):k∈kvs.map (·.1):=by
 have q:(kvs.any fun kv=>decide (kv.1=k))=true:=by
  rw [q28,h]
  all_goals rfl
 obtain ⟨p,hp,e⟩:=List.any_eq_true.mp q
 exact List.mem_map.mpr ⟨p,hp,of_decide_eq_true e⟩
end
end L2
namespace K28
open PySem L2 XM
inductive RLn (L:Nat→PP) (x:Int):Nat→Int→Prop
 | refl:RLn L x 0 x
 | step {m:Nat} {y z b:Int}:RLn L x m y→(b,z)∈L y.toNat→RLn L x (m+1) z
structure BF (H H2:Hp) (d qa:Addr) (L:Nat→PP) (n:Nat) (x:Int) (kvs:List (Key × V)) (qs:List Int) (ds:List Nat):Prop where
 same:Same H H2
 hd:H2 d=some (.dK kvs)
 hq:LI H2 qa qs
 keys:kvs.map (·.1)=qs.map Sum.inl
 nd:qs.Nodup
 first:qs[0]?=some x
 rng:∀ y∈qs,0≤y∧y < n
 rl:∀ (j:Nat) y m,qs[j]?=some y→ds[j]?=some m→RLn L x m y
 v0:valV kvs (Sum.inl x)=some .non
 ch:∀ (j:Nat) y,0 < j→qs[j]?=some y→∃ (i:Nat) (z:Int) (t:Addr) (b:Int) (m:Nat),i < j∧qs[i]?=some z∧valV kvs (Sum.inl y)=some (.ref t)∧H2 t=some (.tup [.int b,.int z])∧(b,y)∈L z.toNat∧ds[i]?=some m∧ds[j]?=some (m+1)
 dl:ds.length=qs.length
 d0:ds[0]?=some 0
 mono:ds.Pairwise (·≤·)
 dj:∀ (j:Nat) m,ds[j]?=some m→m≤j
theorem BF.mem {H H2:Hp} {d qa:Addr} {L:Nat→PP} {n:Nat} {x:Int} {kvs:List (Key × V)} {qs:List Int} {ds:List Nat} (B:BF H H2 d qa L n x kvs qs ds) (z:Int):(valV kvs (Sum.inl z)).isSome=true↔z∈qs:=by
 cases e:valV kvs (Sum.inl z) with
 | none=>
  have:=q9u e
  rw [B.keys] at this
  refine ⟨fun h=>(by cases h),fun h=>absurd (List.mem_map.mpr ⟨z,h,rfl⟩) this⟩
 | some v=>
  have:=q5h e
  rw [B.keys] at this
  obtain ⟨y,hy,ey⟩:=List.mem_map.mp this
  cases ey
  exact ⟨fun _=>hy,fun _=>rfl⟩
theorem BF.len {H H2:Hp} {d qa:Addr} {L:Nat→PP} {n:Nat} {x:Int} {kvs:List (Key × V)} {qs:List Int} {ds:List Nat} (B:BF H H2 d qa L n x kvs qs ds):qs.length≤n:=by
 have:=q1c qs (upto (n:Int)) B.nd fun y hy=>mem_upto.mpr (B.rng y hy)
 rw [q7c] at this
 omega
theorem BF.push {H H2:Hp} {d qa t:Addr} {L:Nat→PP} {n i m:Nat} {x y z b:Int} {kvs:List (Key × V)} {qs:List Int} {ds:List Nat} (B:BF H H2 d qa L n x kvs qs ds) (fd:H d=none) (fq:H qa=none) (hi:qs[i]?=some y) (hm:ds[i]?=some m) (ub:∀ k∈ds,k≤m+1) (hz:z ∉ qs) (hb:(b,z)∈L y.toNat) (hr:0≤z∧z < n) (ht:H2 t=none) :
  BF H (upd (upd (upd H2 t (.tup [.int b,.int y])) d (.dK (putK kvs (Sum.inl z) (.ref t)))) qa (.lst (qs.map V.int++[V.int z]))) d qa L n x (putK kvs (Sum.inl z) (.ref t)) (qs++[z]) (ds++[m+1]):=by
 have hv:valV kvs (Sum.inl z)=none:=by
  cases e:valV kvs (Sum.inl z) with
  | none=>rfl
  | some v=>exact absurd ((B.mem z).mp (by rw [e];rfl)) hz
 have ep:=putK_new (.ref t) hv
 have ndq:d≠qa:=q5q B.hd B.hq (by intro q;cases q)
 have ntd:t≠d:=Ne.symm (q05 B.hd ht)
 have ntq:t≠qa:=Ne.symm (q05 B.hq ht)
 have hil:i < qs.length:=(List.getElem?_eq_some_iff.mp hi).1
 have hx:x∈qs:=List.mem_of_getElem? B.first
 have dl:=B.dl
 have lastq:∀ (j:Nat) u,(qs++[z])[j]?=some u→j < qs.length∨(j=qs.length∧u=z):=fun j u hu=>by
  by_cases hjl:j < qs.length
  ·exact .inl hjl
  ·have hj2:j=qs.length:=by
    have:=(List.getElem?_eq_some_iff.mp hu).1
    rw [List.length_append,List.length_singleton] at this
    omega
   subst hj2
   rw [List.getElem?_append_right (Nat.le_refl _),Nat.sub_self] at hu
   cases hu
   exact .inr ⟨rfl,rfl⟩
 have lastd:(ds++[m+1])[qs.length]?=some (m+1):=by rw [← dl,List.getElem?_append_right (Nat.le_refl _),Nat.sub_self];rfl
 refine ⟨fun c o e=>?_,by rw [q08 ndq];exact q01,by rw [LI,q01,List.map_append];rfl,?_,?_,?_,fun u hu=>?_,fun j u k hu hk=>?_,?_,fun j u hj hu=>?_,by rw [List.length_append,List.length_append,dl];rfl,?_,?_,fun j k hk=>?_⟩
 ·have e2:=B.same _ _ e
  rw [q08 (q05 e fq),q08 (q05 e fd),q08 (q05 e2 ht)]
  exact e2
 ·rw [ep,List.map_append,List.map_append,B.keys]
  rfl
 ·refine List.nodup_append.mpr ⟨B.nd,by simp,fun a ha c hc q=>?_⟩
  rw [List.mem_singleton] at hc
  subst hc
  subst q
  exact hz ha
 ·rw [List.getElem?_append_left (by omega)]
  exact B.first
 ·rcases List.mem_append.mp hu with hu | hu
  ·exact B.rng u hu
  ·rw [List.mem_singleton] at hu
   rw [hu]
   exact hr
 ·rcases lastq j u hu with hj | ⟨rfl,rfl⟩
  ·rw [List.getElem?_append_left hj] at hu
   rw [List.getElem?_append_left (by omega)] at hk
   exact B.rl j u k hu hk
  ·rw [lastd] at hk
   cases hk
   exact .step (B.rl i y m hi hm) hb
 ·rw [q59,if_neg fun q=>?_]
  ·exact B.v0
  ·have q:x=z:=Sum.inl.inj q
   exact hz (q ▸ hx)
 ·rcases lastq j u hu with hjl | ⟨rfl,rfl⟩
  ·rw [List.getElem?_append_left hjl] at hu
   obtain ⟨i',z',t',b',m',a1,a2,a3,a4,a5,a6,a7⟩:=B.ch j u hj hu
   refine ⟨i',z',t',b',m',a1,by rw [List.getElem?_append_left (by omega)];exact a2,?_,?_,a5,by rw [List.getElem?_append_left (by omega)];exact a6,by rw [List.getElem?_append_left (by omega)];exact a7⟩
   ·rw [q59,if_neg fun q=>?_]
    ·exact a3
    ·have q:u=z:=Sum.inl.inj q
     exact hz (q ▸ List.mem_of_getElem? hu)
   ·rw [q08 (q5q a4 B.hq (by intro q;cases q)),q08 (q5q a4 B.hd (by intro q;cases q)),q08 (q05 a4 ht)]
    exact a4
  ·refine ⟨i,y,t,b,m,hil,by rw [List.getElem?_append_left hil];exact hi,by rw [q59,if_pos rfl],?_,hb,by rw [List.getElem?_append_left (by omega)];exact hm,lastd⟩
   rw [q08 ntq,q08 ntd]
   exact q01
 ·rw [List.getElem?_append_left (by omega)]
  exact B.d0
 ·refine List.pairwise_append.mpr ⟨B.mono,by simp,fun a ha c hc=>?_⟩
  rw [List.mem_singleton] at hc
  rw [hc]
  exact ub a ha
 ·by_cases hjl:j < ds.length
  ·rw [List.getElem?_append_left hjl] at hk
   exact B.dj j k hk
  ·have hj2:j=ds.length:=by
    have:=(List.getElem?_eq_some_iff.mp hk).1
    rw [List.length_append,List.length_singleton] at this
    omega
   rw [hj2,dl,lastd] at hk
   cases hk
   have:=B.dj i m hm
   omega
section
variable {P:Program} {w:World} {K:W.Frag} {mg:Str→Option Value} {base:Heap} {CE CS CQ CT:Addr}
inductive spReachI  (vs:List V) (H:Hp) (Q:VK) (E:XK):Prop
 | mk (sa:Addr) (n:Nat) (L:Nat→PP) (x:Int):(vs=[.ref sa,.int x])→(StepsAt H sa n L)→(n≤100)→(0≤x)→(x < n)→((∀ k,k < n→∀ p∈L k,0≤p.2∧p.2 < n))→(∀ (H':Hp) (d qa:Addr) (kvs:List (Key × V)) (qs:List Int) (ds:List Nat),BF H H' d qa L n x kvs qs ds→H d=none→(∀ m y,RLn L x m y→∃ (j k:Nat),qs[j]?=some y∧ds[j]?=some k∧k≤m)→Q (.ref d) H')→spReachI  vs H Q E
def spReach  : Sp:=fun vs H Q E=>spReachI  vs H Q E
theorem scReach:FnScope ["steps", "start", "came_by", "queue", "place", "quarter", "bridge", "beyond"] ["steps", "start"] (q03 q6s):=⟨rfl,rfl,rfl,by decide +kernel,rfl,by decide +kernel,by decide +kernel⟩
def plc:St→Nat:=fun σ=>match (σ[4]?:Option (Option V)) with
 | some (some (V.int i))=>i.toNat
 | _=>0
theorem ok_reach {f:Addr} {fd:FuncData} (T:Txt K mg CE CS CQ CT) (F:Fun K "reached_from" "reached_from" q6s f fd):FnOk P w K mg base CX0 1 f fd ["steps", "start"] spReach:=by
 refine F.ok scReach (fun vs H Q E h=>?_) (fun cdv A outer s H vs Q E hr h=>?_)
 ·obtain ⟨sa,n,L,x,rfl,_⟩:=h
  rfl
 ·obtain ⟨sa,n,L,x,rfl,hsa,hn,hx0,hx1,hL,kQ⟩:=h
  have hu:=hu_of hr
  refine ⟨_,q02 (q0a (i:=2) scReach.nd rfl (Or.inl rfl) (pe_disp (z1d (pv 1) q6e pps_nil) rfl rfl (by simp) (by decide)))
   (q02 (q0a (i:=3) scReach.nd rfl (Or.inl rfl) (q1q (q00 (pv 1) q04)))
   (q02 (q0a (i:=4) scReach.nd rfl (Or.inl rfl) q07)
   (q02 (q57 PassesOwn.never (q0p op_lt (pv 4) (q0b q48 (by rfl) T.len PySem.boot_len (q00 (pv 3) q04)) (q0u _))
    (q02 (q0a (i:=5) scReach.nd rfl (Or.inl rfl) (q0n q0g (pv 3) (pv 4) (fun _ _=>rfl)))
    (q02 (q21 PassesOwn.never rfl (q19 (q0n q0g (pv 0) (pv 5) (fun _ _=>rfl))) (q8c (n:=2) rfl (q1w (q0k (i:=6) scReach.nd rfl (Or.inl rfl)) (q1w (q0k (i:=7) scReach.nd rfl (Or.inl rfl)) q5l)))
     (q06 (q11 (q4m (q60 hu (pv 7) (pv 2)))
      (q02 (z03 hu (pv 2) (pv 7) (q1u (q00 (pv 6) (q00 (pv 5) q04))) rfl)
      (q06 (q0q (q3n PySem.F.plainAttrs_list PySem.F.slot_list_append PySem.F.type_list_append q15 (pv 3) (q00 (pv 7) q04))))) q0f)))
    (q06 (ps_aug (i:=4) scReach.nd rfl (Or.inl rfl) q07 ip_add)))))
   (q06 (q0i (pv 2)))))),?_⟩
  try dsimp only [cx_of,cx_nox,cx_comp]
  intro d hd
  refine ⟨_,rfl,q01,[(Sum.inl x,.non)],rfl,by show 1≤15;decide,?_⟩
  have e0:upd (upd H d (.dK [])) d (.dK (q5b [] [(Sum.inl x,V.non)]))=upd H d (.dK [(Sum.inl x,V.non)]):=by rw [upd_upd];rfl
  rw [e0]
  refine ⟨_,rfl,by show 1≤sizeLine;decide,fun qa hqa=>?_⟩
  have hqa':H qa=none:=(Same.rfl'.new (o:=HO.dK [(Sum.inl x,V.non)]) hd).free hqa
  have ndq:d≠qa:=q05 q01 hqa
  have B0:BF H (upd (upd H d (.dK [(Sum.inl x,V.non)])) qa (.lst [V.int x])) d qa L n x [(Sum.inl x,V.non)] [x] [0]:=
   ⟨(Same.rfl'.new hd).tr (Same.rfl'.new hqa),by rw [q08 ndq];exact q01,q01,rfl,by simp,rfl,fun y hy=>by rw [List.mem_singleton] at hy;rw [hy];exact ⟨hx0,hx1⟩,fun j y m hy hm=>by
    have:=(List.getElem?_eq_some_iff.mp hy).1
    have e:j=0:=by simp at this;omega
    subst e
    cases hy
    cases hm
    exact .refl,q1d rfl,fun j y hj hy=>by
    have:=(List.getElem?_eq_some_iff.mp hy).1
    simp at this
    omega,rfl,rfl,by simp,fun j m hm=>by
    have:=(List.getElem?_eq_some_iff.mp hm).1
    have e:j=0:=by simp at this;omega
    subst e
    cases hm
    exact Nat.le_refl _⟩
  refine q7n (fun σ H2=>∃ kvs qs ds pl u v z,BF H H2 d qa L n x kvs qs ds∧pl≤qs.length∧(∀ i,i < pl→∀ y m,qs[i]?=some y→ds[i]?=some m→∀ p∈L y.toNat,∃ (j k:Nat),qs[j]?=some p.2∧ds[j]?=some k∧k≤m+1)∧(∀ m,ds[pl]?=some m→∀ k∈ds,k≤m+1)∧σ=[some (.ref sa),some (.int x),some (.ref d),some (.ref qa),some (.int ((pl:Nat):Int)),u,v,z])
   (fun σ _=>n - plc σ) ⟨_,[x],[0],0,_,_,_,B0,by simp,fun i hi=>absurd hi (by omega),fun m hm k hk=>(by rw [List.mem_singleton] at hk;omega),rfl⟩ ?_ ?_
  ·rintro σ H2 ⟨kvs,qs,ds,pl,u,v,z,B,hpl,hcl,hub,rfl⟩
   refine ⟨_,rfl,_,rfl,qa,_,rfl,.inl (SqL.of B.hq),_,_,rfl,rfl,_,rfl,?_⟩
   rw [List.length_map]
   have hlen:=B.len
   by_cases hlt:pl < qs.length
   rotate_left
   ·rw [decide_eq_false (show ¬ ((pl:Nat):Int) < (qs.length:Int) by omega)]
    refine iteF ⟨_,rfl,kQ H2 d qa kvs qs ds B hd fun m y hy=>?_⟩
    induction hy with
    | refl=>exact ⟨0,0,B.first,B.d0,Nat.le_refl _⟩
    | @step m y' z' b' _ hb ih=>
     obtain ⟨i,k,hi,hk,hkm⟩:=ih
     have hil:=(List.getElem?_eq_some_iff.mp hi).1
     obtain ⟨j',k',a1,a2,a3⟩:=hcl i (by omega) y' k hi hk (b',z') hb
     exact ⟨j',k',a1,a2,by omega⟩
   rw [decide_eq_true (show ((pl:Nat):Int) < (qs.length:Int) by omega)]
   obtain ⟨y,hy⟩:∃ y,qs[pl]?=some y:=⟨_,List.getElem?_eq_getElem hlt⟩
   obtain ⟨hy0,hy1⟩:=B.rng y (List.mem_of_getElem? hy)
   have hdl:=B.dl
   obtain ⟨dm,hdm⟩:∃ dm,ds[pl]?=some dm:=⟨_,List.getElem?_eq_getElem (by omega)⟩
   have hub0:=hub dm hdm
   have ey:((y.toNat:Nat):Int)=y:=by omega
   obtain ⟨as,ha,hal,hls⟩:=(hsa.same B.same).ex
   obtain ⟨a,hay⟩:∃ a,as[y.toNat]?=some a:=⟨_,List.getElem?_eq_getElem (by omega)⟩
   obtain ⟨ts,hts,hpv⟩:=hls _ a hay
   have hm:(as.map V.ref)[y.toNat]?=some (.ref a):=by rw [List.getElem?_map,hay];rfl
   refine iteT ⟨_,rfl,_,rfl,qa,_,_,_,rfl,rfl,SqL.of B.hq,q09 (v:=.int y) (by rw [List.getElem?_map,hy];rfl),?_⟩
   refine ⟨_,rfl,_,rfl,sa,_,_,V.ref a,rfl,rfl,SqL.of ha,by rw [← ey];exact q09 hm,a,rfl,⟨_,SqL.of hts⟩,?_⟩
   obtain ⟨as0,ha0,hal0,hls0⟩:=hsa.ex
   have eas:as=as0:=by
    have h1:=B.same _ _ ha0
    rw [ha] at h1
    exact (List.map_inj_right (fun _ _ e=>V.ref.inj e)).mp (HO.lst.inj (Option.some.inj h1))
   subst eas
   obtain ⟨ts0,hts0,hpv0⟩:=hls0 _ a hay
   have ets:ts=ts0:=by
    have h1:=B.same _ _ hts0
    rw [hts] at h1
    cases h1
    rfl
   subst ets
   refine q1x (K:=K) (a:=a) (xs:=ts) (fun j σ H3=>∃ kvs' qs' ds' v' z',BF H H3 d qa L n x kvs' qs' ds'∧(∃ more,qs'=qs++more)∧(∃ mored,ds'=ds++mored)∧(∀ k∈ds',k≤dm+1)∧(∀ p∈(L y.toNat).take j,p.2∈qs')∧σ=[some (.ref sa),some (.int x),some (.ref d),some (.ref qa),some (.int ((pl:Nat):Int)),some (.int y),v',z'])
    ⟨kvs,qs,ds,_,_,B,⟨[],by simp⟩,⟨[],by simp⟩,hub0,fun p hp=>by simp at hp,rfl⟩ (fun j σ H3 _ ⟨_,_,_,_,_,B3,_⟩=>SqL.of (B3.same _ _ hts0)) ?_ ?_
   ·rintro j tv σ H3 hj ⟨kvs',qs',ds',v',z',B3,⟨more,emore⟩,⟨mored,emored⟩,hub3,hcl3,rfl⟩
    obtain ⟨pr,hpr,ta,rfl,hta⟩:=(hpv0.same B3.same).get hj
    have hmem:pr∈L y.toNat:=List.mem_of_getElem? hpr
    obtain ⟨hr0,hr1⟩:=hL y.toNat (by omega) pr hmem
    have et:=q0m hpr
    refine ⟨ta,_,rfl,SqT.of hta,rfl,_,_,rfl,_,_,rfl,rfl,?_⟩
    refine ⟨_,rfl,_,rfl,d,_,rfl,DGet.k (k:=Sum.inl pr.2) B3.hd,_,rfl,?_⟩
    have hmm:=B3.mem pr.2
    cases ev:valV kvs' (Sum.inl pr.2) with
    | some vv=>
     rw [ev] at hmm
     have hin:=hmm.mp rfl
     refine iteF ⟨kvs',qs',ds',_,_,B3,⟨more,emore⟩,⟨mored,emored⟩,hub3,fun p hp=>?_,rfl⟩
     rw [et] at hp
     rcases List.mem_append.mp hp with hp | hp
     ·exact hcl3 p hp
     ·rw [List.mem_singleton] at hp
      rw [hp]
      exact hin
    | none=>
     rw [ev] at hmm
     have hnin:pr.2 ∉ qs':=fun z=>by
      have:=hmm.mpr z
      cases this
     have hl3:=B3.len
     have hk3:kvs'.length=qs'.length:=by
      have:=congrArg List.length B3.keys
      simpa using this
     refine iteT ⟨_,rfl,_,rfl,by show 2≤sizeLine;decide,fun t ht=>?_⟩
     have ntd:d≠t:=q05 B3.hd ht
     have ntq:qa≠t:=q05 B3.hq ht
     refine ⟨_,rfl,_,rfl,d,_,rfl,DPut.k (k:=Sum.inl pr.2) (kvs:=kvs') (by rw [q08 ntd];exact B3.hd) (q0c (by omega)),?_⟩
     have hq4:(upd (upd H3 t (.tup [V.int pr.1,V.int y])) d (.dK (putK kvs' (Sum.inl pr.2) (.ref t)))) qa=some (.lst (qs'.map V.int)):=by
      rw [q08 (Ne.symm ndq),q08 ntq]
      exact B3.hq
     refine ⟨_,rfl,.inl ⟨rfl,_,SqL.of hq4⟩,_,rfl,qa,_,_,rfl,rfl,hq4,by rw [List.length_map];exact q0c (by omega),?_⟩
     have hyi:qs'[pl]?=some y:=by rw [emore,List.getElem?_append_left hlt];exact hy
     have hdi:ds'[pl]?=some dm:=by rw [emored,List.getElem?_append_left (by omega)];exact hdm
     refine ⟨_,qs'++[pr.2],ds'++[dm+1],_,_,B3.push (b:=pr.1) hd hqa' hyi hdi hub3 hnin hmem ⟨hr0,hr1⟩ ht,⟨more++[pr.2],by rw [emore,List.append_assoc]⟩,⟨mored++[dm+1],by rw [emored,List.append_assoc]⟩,fun k hk=>?_,fun p hp=>?_,rfl⟩
     ·rcases List.mem_append.mp hk with hk | hk
      ·exact hub3 k hk
      ·rw [List.mem_singleton] at hk
       omega
     rw [et] at hp
     rcases List.mem_append.mp hp with hp | hp
     ·exact List.mem_append_left _ (hcl3 p hp)
     ·rw [List.mem_singleton] at hp
      rw [hp]
      simp
   ·rintro σ H3 ⟨kvs',qs',ds',v',z',B3,⟨more,emore⟩,⟨mored,emored⟩,hub3,hcl3,rfl⟩
    rw [hpv0.length,List.take_length] at hcl3
    have hdi:ds'[pl]?=some dm:=by rw [emored,List.getElem?_append_left (by omega)];exact hdm
    have dl3:=B3.dl
    refine ⟨_,rfl,_,_,rfl,rfl,⟨⟨kvs',qs',ds',pl+1,_,_,_,B3,?_,fun i hi y' m' hy' hm' p hp=>?_,fun m hm k hk=>?_,rfl⟩,?_⟩⟩
    ·rw [emore,List.length_append]
     omega
    ·by_cases e:i=pl
     ·subst e
      rw [emore,List.getElem?_append_left hlt,hy] at hy'
      cases hy'
      rw [hdi] at hm'
      cases hm'
      obtain ⟨j',hj',ej⟩:=List.mem_iff_getElem.mp (hcl3 p hp)
      exact ⟨j',ds'[j']'(by omega),by rw [List.getElem?_eq_getElem hj',ej],List.getElem?_eq_getElem (by omega),hub3 _ (List.getElem_mem _)⟩
     ·rw [emore,List.getElem?_append_left (by omega)] at hy'
      rw [emored,List.getElem?_append_left (by omega)] at hm'
      obtain ⟨j',k',a1,a2,a3⟩:=hcl i (by omega) y' m' hy' hm' p hp
      have l1:=(List.getElem?_eq_some_iff.mp a1).1
      have l2:=(List.getElem?_eq_some_iff.mp a2).1
      exact ⟨j',k',by rw [emore,List.getElem?_append_left l1];exact a1,by rw [emored,List.getElem?_append_left l2];exact a2,a3⟩
    ·have h1:=hub3 k hk
     obtain ⟨l1,e1⟩:=List.getElem?_eq_some_iff.mp hm
     obtain ⟨l2,e2⟩:=List.getElem?_eq_some_iff.mp hdi
     have:=List.pairwise_iff_getElem.mp B3.mono pl (pl+1) l2 l1 (by omega)
     rw [e1,e2] at this
     omega
    ·show n - ((pl:Int)+1).toNat < n - ((pl:Nat):Int).toNat
     omega
  ·rintro σ H2 Q1 Q2 k ⟨a1,b1,a2,b2,a3,a4,b3,b4,a5,a6,b5,b6,c1,c2,q⟩
   exact ⟨a1,b1,a2,b2,a3,a4,b3,b4,a5,a6,b5,b6,c1,c2,k _ _ q⟩
end
end K28
namespace K28
open PySem L2 XM
inductive Pth (L:Nat→PP):Int→List (Int × Int)→Int→Prop
 | nil {y:Int}:Pth L y [] y
 | cons {x z y b:Int} {tl:List (Int × Int)}:(b,z)∈L x.toNat→Pth L z tl y→Pth L x ((b,z)::tl) y
structure Sym (L:Nat→PP) (n:Nat):Prop where
 rng:∀ k,k < n→∀ p∈L k,0≤p.2∧p.2 < n
 back:∀ k,k < n→∀ p∈L k,(p.1,(k:Int))∈L p.2.toNat
theorem stp_sym {ps:PP} {bs:List Int} {q:Int} (hok:∀ p∈ps,q0z q p=true) (hbs:∀ b∈bs,0≤b∧b < ps.length):Sym (stp ps bs) q.toNat:=by
 have ends:∀ b∈bs,(0≤(eb ps b).1∧(eb ps b).1 < q)∧(0≤(eb ps b).2∧(eb ps b).2 < q):=fun b hb=>by
  obtain ⟨h0,h1⟩:=hbs b hb
  have hl:b.toNat < ps.length:=by omega
  have e:eb ps b=ps[b.toNat]:=q2d (List.getElem?_eq_getElem hl)
  have:=hok _ (List.getElem_mem hl)
  unfold q0z at this
  simp only [Bool.and_eq_true,decide_eq_true_eq] at this
  rw [e]
  exact ⟨this.1,this.2.1⟩
 constructor
 ·rintro k hk ⟨b,z⟩ hp
  obtain ⟨hb,⟨_,rfl⟩ | ⟨_,rfl⟩⟩:=mem_stp.mp hp
  ·have:=(ends b hb).2
   exact ⟨this.1,by have:=this.2;omega⟩
  ·have:=(ends b hb).1
   exact ⟨this.1,by have:=this.2;omega⟩
 ·rintro k hk ⟨b,z⟩ hp
  obtain ⟨hb,⟨e,rfl⟩ | ⟨e,rfl⟩⟩:=mem_stp.mp hp
  ·refine mem_stp.mpr ⟨hb,.inr ⟨?_,e.symm⟩⟩
   have:=(ends b hb).2
   show (eb ps b).2=(((eb ps b).2.toNat:Nat):Int)
   omega
  ·refine mem_stp.mpr ⟨hb,.inl ⟨?_,e.symm⟩⟩
   have:=(ends b hb).1
   show (eb ps b).1=(((eb ps b).1.toNat:Nat):Int)
   omega
theorem q3d {qs:List Int} (h:qs.Nodup) {i j:Nat} {y:Int} (hi:qs[i]?=some y) (hj:qs[j]?=some y):i=j:=by
 obtain ⟨l1,e1⟩:=List.getElem?_eq_some_iff.mp hi
 obtain ⟨l2,e2⟩:=List.getElem?_eq_some_iff.mp hj
 rcases Nat.lt_trichotomy i j with h' | h' | h'
 ·exact absurd (e1.trans e2.symm) (List.pairwise_iff_getElem.mp h i j l1 l2 h')
 ·exact h'
 ·exact absurd (e2.trans e1.symm) (List.pairwise_iff_getElem.mp h j i l2 l1 h')
structure Way (L:Nat→PP) (n:Nat) (x y:Int) (tl:List (Int × Int)):Prop where
 pth:Pth L x tl y
 nd:(x::tl.map (·.2)).Nodup
 rl:RLn L x tl.length y
 least:∀ m,RLn L x m y→tl.length≤m
 lt:tl.length < n
section
variable {P:Program} {w:World} {K:W.Frag} {mg:Str→Option Value} {base:Heap} {CE CS CQ CT:Addr}
inductive spWayToI  (vs:List V) (H2:Hp) (Q:VK) (E:XK):Prop
 | mk (H1:Hp) (d qa:Addr) (L:Nat→PP) (n:Nat) (x y:Int) (kvs:List (Key × V)) (qs:List Int) (ds:List Nat):(vs=[.int y,.ref d])→(BF H1 H2 d qa L n x kvs qs ds)→(n≤100)→((∀ (m:Nat) (y:Int),RLn L x m y→∃ (j k:Nat),qs[j]?=some y∧ds[j]?=some k∧k≤m))→(((∀ m,¬ RLn L x m y)→∀ H',Same H2 H'→Q .non H'))→((∀ (H':Hp) (d:Addr) (tl:List (Int × Int)),Same H2 H'→H2 d=none→LI H' d (tl.map (·.1))→Way L n x y tl→Q (.ref d) H'))→spWayToI  vs H2 Q E
def spWayTo  : Sp:=fun vs H2 Q E=>spWayToI  vs H2 Q E
theorem scWayTo:FnScope ["quarter", "came_by", "way", "step"] ["quarter", "came_by"] (q03 q6u):=⟨rfl,rfl,rfl,by decide +kernel,rfl,by decide +kernel,by decide +kernel⟩
def lenAt (wa:Addr) (H:Hp):Nat:=match H wa with
 | some (.lst xs)=>xs.length
 | _=>0
theorem ok_wayTo {f:Addr} {fd:FuncData} (T:Txt K mg CE CS CQ CT) (F:Fun K "way_to" "way_to" q6u f fd):FnOk P w K mg base CX0 1 f fd ["quarter", "came_by"] spWayTo:=by
 refine F.ok scWayTo (fun vs H Q E h=>?_) (fun cdv A outer s H2 vs Q E hr h=>?_)
 ·obtain ⟨H1,d,qa,L,n,x,y,kvs,qs,ds,rfl,_⟩:=h
  rfl
 ·obtain ⟨H1,d,qa,L,n,x,y,kvs,qs,ds,rfl,B,hn100,hcomp,kN,kW⟩:=h
  have hu:=hu_of hr
  refine ⟨_,q02 (q11 (q4m (q60 hu (pv 0) (pv 1))) (q06 (q0i q6e)) q0f)
   (q02 (q0a (i:=2) scWayTo.nd rfl (Or.inl rfl) (q1q q04))
   (q02 (q0a (i:=3) scWayTo.nd rfl (Or.inl rfl) (q7e hu (pv 1) (pv 0) (fun _ _=>rfl)))
   (q02 (q57 PassesOwn.never (q4m (pc_notN (pv 3)))
    (q02 (q0q (q3n PySem.F.plainAttrs_list PySem.F.slot_list_append PySem.F.type_list_append q15 (pv 2) (q00 (q0n q18 (pv 3) q07 (fun _ _=>rfl)) q04)))
    (q06 (q0a (i:=3) scWayTo.nd rfl (Or.inl rfl) (q7e hu (pv 1) (q0n q18 (pv 3) q07 (fun _ _=>rfl)) (fun _ _=>rfl))))))
   (q02 (q0q (pe_bm0 PySem.F.plainAttrs_list PySem.F.slot_list_reverse PySem.F.type_list_reverse mt_reverse (pv 2)))
   (q06 (q0i (pv 2))))))),?_⟩
  try dsimp only [cx_of,cx_nox,cx_comp]
  have hmm:=B.mem y
  refine ⟨_,rfl,_,rfl,d,_,rfl,DGet.k (k:=Sum.inl y) B.hd,_,rfl,?_⟩
  cases ev:valV kvs (Sum.inl y) with
  | none=>
   rw [ev] at hmm
   refine iteT (kN (fun m hm=>?_) H2 Same.rfl')
   obtain ⟨j,k,a1,_⟩:=hcomp m y hm
   have:=hmm.mpr (List.mem_of_getElem? a1)
   cases this
  | some v0=>
   rw [ev] at hmm
   obtain ⟨j0,hj0,ej0⟩:=List.mem_iff_getElem.mp (hmm.mp rfl)
   have hj0':qs[j0]?=some y:=by rw [List.getElem?_eq_getElem hj0,ej0]
   have hdl:=B.dl
   obtain ⟨m0,hm0⟩:∃ m0,ds[j0]?=some m0:=⟨_,List.getElem?_eq_getElem (by omega)⟩
   refine iteF ⟨by show 0≤sizeLine;decide,fun wa hwa=>?_⟩
   have t0:Same H2 (upd H2 wa (.lst [])):=Same.rfl'.new hwa
   have g0:=DGet.k (k:=Sum.inl y) (t0 _ _ B.hd)
   rw [ev] at g0
   refine ⟨_,rfl,_,rfl,d,v0,rfl,g0,?_⟩
   have hmq:m0 < n:=by
    have:=B.dj j0 m0 hm0
    have:=B.len
    omega
   have hleast:∀ m,RLn L x m y→m0≤m:=fun m hm=>by
    obtain ⟨j,k,a1,a2,a3⟩:=hcomp m y hm
    have l1:=(List.getElem?_eq_some_iff.mp a1).1
    have e:j=j0:=q3d B.nd a1 hj0'
    rw [e,hm0] at a2
    cases a2
    exact a3
   refine q7n (fun σ H3=>∃ (j:Nat) (yj:Int) (m:Nat) (tl:List (Int × Int)) (st:V),Same H2 H3∧LI H3 wa (tl.map (·.1)).reverse∧qs[j]?=some yj∧ds[j]?=some m∧valV kvs (Sum.inl yj)=some st∧Pth L yj tl y∧(yj::tl.map (·.2)).Nodup∧(∀ z∈tl.map (·.2),∃ k,j < k∧qs[k]?=some z)∧tl.length+m=m0∧
     σ=[some (.int y),some (.ref d),some (.ref wa),some st]) (fun _ H3=>m0+1 - lenAt wa H3)
    ⟨j0,y,m0,[],v0,t0,q01,hj0',hm0,ev,.nil,by simp,fun z hz=>by simp at hz,by simp,rfl⟩ ?_ ?_
   ·rintro σ H3 ⟨j,yj,m,tl,st,s3,hwa3,hj,hm,hv,hpth,hnd,hidx,hlen,rfl⟩
    refine ⟨_,rfl,_,rfl,?_⟩
    have hd3:H3 d=some (.dK kvs):=s3 _ _ B.hd
    by_cases h0:j=0
    ·subst h0
     have ex:yj=x:=by
      have:=B.first
      rw [hj] at this
      exact Option.some.inj this
     subst ex
     rw [B.v0] at hv
     cases hv
     have hm':m=0:=by
      have:=B.d0
      rw [hm] at this
      exact Option.some.inj this
     refine iteF ⟨_,rfl,.inl ⟨rfl,_,SqL.of hwa3⟩,wa,_,rfl,rfl,hwa3,_,rfl,?_⟩
     refine kW _ wa tl (fun b o e=>?_) hwa ?_ ⟨hpth,hnd,?_,fun m' h'=>?_,by omega⟩
     ·rw [q08 (q05 e hwa)]
      exact s3 _ _ e
     ·rw [LI,q01,← List.map_reverse,List.reverse_reverse]
     ·have:=B.rl j0 y m0 hj0' hm0
      rw [show tl.length=m0 by omega]
      exact this
     ·have:=hleast m' h'
      omega
    ·obtain ⟨i,z,t,b,m',a1,a2,a3,a4,a5,a6,a7⟩:=B.ch j yj (by omega) hj
     rw [hv] at a3
     cases a3
     rw [hm] at a7
     have em:m=m'+1:=Option.some.inj a7
     have at3:H3 t=some (.tup [.int b,.int z]):=s3 _ _ a4
     refine iteT ⟨_,rfl,.inl ⟨rfl,_,SqL.of hwa3⟩,_,rfl,t,_,_,_,rfl,rfl,SqT.of at3,q09 (j:=0) rfl,wa,_,_,rfl,rfl,hwa3,by rw [List.length_map,List.length_reverse,List.length_map];exact q0c (by omega),?_⟩
     have k4:∀ c o,H2 c=some o→(upd H3 wa (.lst (((tl.map (·.1)).reverse).map V.int++[V.int b]))) c=some o:=fun c o e=>by
      rw [q08 (q05 e hwa)]
      exact s3 _ _ e
     obtain ⟨vz,hvz⟩:∃ vz,valV kvs (Sum.inl z)=some vz:=by
      have:=(B.mem z).mpr (List.mem_of_getElem? a2)
      exact Option.isSome_iff_exists.mp this
     have g3:=DGet.k (k:=Sum.inl z) (k4 _ _ B.hd)
     rw [hvz] at g3
     refine ⟨_,rfl,_,rfl,t,_,_,_,rfl,rfl,SqT.of (k4 _ _ a4),q09 (j:=1) rfl,d,vz,rfl,g3,?_⟩
     refine ⟨⟨i,z,m',(b,yj)::tl,vz,k4,?_,a2,a6,hvz,.cons a5 hpth,?_,?_,by rw [List.length_cons];omega,rfl⟩,?_⟩
     ·rw [LI,q01,List.map_cons,List.reverse_cons,List.map_append]
      rfl
     ·rw [List.map_cons]
      refine List.nodup_cons.mpr ⟨fun hz=>?_,hnd⟩
      have key:∀ k,j≤k→qs[k]?=some z→False:=fun k hk hkz=>by
       have:=q3d B.nd hkz a2
       omega
      rcases List.mem_cons.mp hz with e | e
      ·exact key j (Nat.le_refl _) (by rw [e];exact hj)
      ·obtain ⟨k,hk,hkz⟩:=hidx z e
       exact key k (by omega) hkz
     ·intro u hu
      rcases List.mem_cons.mp hu with e | e
      ·exact ⟨j,a1,by rw [e];exact hj⟩
      ·obtain ⟨k,hk,hkz⟩:=hidx u e
       exact ⟨k,by omega,hkz⟩
     ·have e1:lenAt wa H3=tl.length:=by unfold lenAt;rw [hwa3];simp
      have e2:lenAt wa (upd H3 wa (.lst (((tl.map (·.1)).reverse).map V.int++[V.int b])))=tl.length+1:=by unfold lenAt;rw [q01];simp
      rw [e1,e2]
      omega
   ·rintro σ H3 Q1 Q2 k ⟨a1,b1,a2,b2,q⟩
    exact ⟨a1,b1,a2,b2,k _ _ q⟩
inductive spBetweenI (CT:Addr) (vs:List V) (H:Hp) (Q:VK) (E:XK):Prop
 | mk (p l2:Addr) (q:Int) (ys:List V) (ps:PP) (l:Addr) (bs:List Int) (x y:Int):(vs=[.ref p,.ref l,.int x,.int y])→(TownAt CT H p l2 q ys)→(PV H ys ps)→(fits q ps=true)→(LI H l bs)→(bs.length≤100)→((∀ b∈bs,0≤b∧b < ps.length))→((0≤x∧x < q))→(((∀ m,¬ RLn (stp ps bs) x m y)→∀ H',Same H H'→Q .non H'))→((∀ (H':Hp) (d:Addr) (tl:List (Int × Int)),Same H H'→H d=none→LI H' d (tl.map (·.1))→Way (stp ps bs) q.toNat x y tl→Q (.ref d) H'))→spBetweenI CT vs H Q E
def q92 (CT:Addr):Sp:=fun vs H Q E=>spBetweenI CT vs H Q E
theorem scBetween:FnScope ["town", "some", "one", "other"] ["town", "some", "one", "other"] (q03 q3k):=⟨rfl,rfl,rfl,by decide +kernel,rfl,by decide +kernel,by decide +kernel⟩
theorem ok_between {f f1 f2 f3:Addr} {fd fd1 fd2 fd3:FuncData} (T:Txt K mg CE CS CQ CT) (F:Fun K "way_between" "way_between" q3k f fd)
  (G1:FnOk P w K mg base CX0 1 f1 fd1 ["town", "some"] (spSteps CT)) (b1:Binds K fd1 ["town", "some"] []) (m1:mg "steps_over" = some (.ref f1)) (k1:W.keepIn K (.ref f1)=true)
  (G2:FnOk P w K mg base CX0 1 f2 fd2 ["steps", "start"] spReach) (b2:Binds K fd2 ["steps", "start"] []) (m2:mg "reached_from" = some (.ref f2)) (k2:W.keepIn K (.ref f2)=true)
  (G3:FnOk P w K mg base CX0 1 f3 fd3 ["quarter", "came_by"] spWayTo) (b3:Binds K fd3 ["quarter", "came_by"] []) (m3:mg "way_to" = some (.ref f3)) (k3:W.keepIn K (.ref f3)=true) :
  FnOk P w K mg base CX0 2 f fd ["town", "some", "one", "other"] (q92 CT):=by
 refine F.ok scBetween (fun vs H Q E h=>?_) (fun cdv A outer s H vs Q E hr h=>?_)
 ·obtain ⟨p,l2,q,ys,ps,l,bs,x,y,rfl,_⟩:=h
  rfl
 ·obtain ⟨p,l2,q,ys,ps,l,bs,x,y,rfl,ht,hp,hft,hl,hbl,hbs,⟨hx0,hx1⟩,kN,kW⟩:=h
  refine ⟨_,q06 (q0i (q0h G3 hr (by rfl) m3 k3 b3 .nil q1a (q00 (pv 3) (q00 (q0h G2 hr (by rfl) m2 k2 b2 .nil q1a (q00 (q0h G1 hr (by rfl) m1 k1 b1 .nil q1a (q00 (pv 0) (q00 (pv 1) q04))) (q00 (pv 2) q04))) q04)))),?_⟩
  try dsimp only [cx_of,cx_nox,cx_comp]
  obtain ⟨⟨hq1,hq2⟩,h60,hok⟩:=q1z hft
  refine ⟨_,rfl,_,rfl,_,rfl,p,l2,q,ys,ps,l,bs,rfl,ht,hp,hft,hl,hbl,hbs,fun H1 sa s1 hsa=>?_⟩
  have S:Sym (stp ps bs) q.toNat:=stp_sym hok hbs
  generalize stp ps bs=L at hsa S kN kW
  refine ⟨_,rfl,sa,q.toNat,L,x,rfl,hsa,by omega,hx0,by omega,S.rng,fun H2 d qa kvs qs ds B hd hcomp=>?_⟩
  have s2:=s1.tr B.same
  exact ⟨H1,d,qa,L,q.toNat,x,y,kvs,qs,ds,rfl,B,by omega,hcomp,fun h H' s'=>kN h H' (s2.tr s'),fun H' d' tl s' hd' hl' hw=>kW H' d' tl (s2.tr s') (s2.free hd') hl' hw⟩
end
end K28
namespace K28
open PySem L2 XM
end K28
namespace K28
open PySem L2 XM
theorem q62:∀ {nss:List (List Int)} {g:List Int},g∈nss→g.length≤nss.flatten.length
 | x::r,g,h=>by
  rw [List.flatten_cons,List.length_append]
  rcases List.mem_cons.mp h with e | h
  ·rw [e]
   omega
  ·have:=q62 h
   omega
structure LM (H H2:Hp) (la:Addr) (as:List Addr) (nss:List (List Int)):Prop where
 same:Same H H2
 hl:H2 la=some (.lst (as.map V.ref))
 len:as.length=nss.length
 ls:∀ (k:Nat) a g,as[k]?=some a→nss[k]?=some g→LI H2 a g
 fr:∀ a∈as,H a=none∧a≠la
 nd:as.Nodup
theorem LM.same2 {H H2 H3:Hp} {la:Addr} {as:List Addr} {nss:List (List Int)} (m:LM H H2 la as nss) (s:Same H2 H3):LM H H3 la as nss:=
 ⟨m.same.tr s,s _ _ m.hl,m.len,fun k a g h1 h2=>s _ _ (m.ls k a g h1 h2),m.fr,m.nd⟩
theorem LM.out {H H2:Hp} {la:Addr} {as:List Addr} {nss:List (List Int)} (m:LM H H2 la as nss):LS H2 (as.map V.ref) nss:=by
 refine All2.of_get (by rw [List.length_map];exact m.len) fun k x g h1 h2=>?_
 rw [List.getElem?_map] at h1
 obtain ⟨a,ha,rfl⟩:=Option.map_eq_some_iff.mp h1
 exact ⟨a,rfl,m.ls k a g ha h2⟩
theorem nodup_ixA {as:List Addr} (h:as.Nodup) {i j:Nat} {a:Addr} (hi:as[i]?=some a) (hj:as[j]?=some a):i=j:=by
 obtain ⟨l1,e1⟩:=List.getElem?_eq_some_iff.mp hi
 obtain ⟨l2,e2⟩:=List.getElem?_eq_some_iff.mp hj
 rcases Nat.lt_trichotomy i j with h' | h' | h'
 ·exact absurd (e1.trans e2.symm) (List.pairwise_iff_getElem.mp h i j l1 l2 h')
 ·exact h'
 ·exact absurd (e2.trans e1.symm) (List.pairwise_iff_getElem.mp h j i l2 l1 h')
theorem LM.push {H H2:Hp} {la:Addr} {as:List Addr} {nss:List (List Int)} {k:Nat} {a:Addr} {g:List Int} {b:Int} (m:LM H H2 la as nss) (ha:as[k]?=some a) (hg:nss[k]?=some g):LM H (upd H2 a (.lst (g.map V.int++[V.int b]))) la as (nss.set k (g++[b])):=by
 obtain ⟨f1,f2⟩:=m.fr a (List.mem_of_getElem? ha)
 have hk:k < nss.length:=(List.getElem?_eq_some_iff.mp hg).1
 refine ⟨fun c o e=>by rw [q08 (q05 e f1)];exact m.same _ _ e,by rw [q08 (Ne.symm f2)];exact m.hl,by rw [List.length_set];exact m.len,fun j c h hc hh=>?_,m.fr,m.nd⟩
 by_cases e:j=k
 ·subst e
  rw [ha] at hc
  cases hc
  rw [List.getElem?_set_self hk] at hh
  cases hh
  rw [LI,q01,List.map_append]
  rfl
 ·rw [List.getElem?_set_ne (Ne.symm e)] at hh
  have hne:c≠a:=fun z=>e (nodup_ixA m.nd hc (by rw [z];exact ha))
  rw [LI,q08 hne]
  exact m.ls j c h hc hh
end K28
namespace K28
open PySem L2 XM
def CrewAt (H:Hp) (a:Addr) (ks:List Int) (cof:Int→Option Nat):Prop:=∃ kvs:List (Key × V),H a=some (.dK kvs)∧kvs.map (·.1)=ks.map Sum.inl∧∀ b,valV kvs (Sum.inl b)=(cof b).map fun (c:Nat)=>V.int (c:Int)
def lists (cof:Int→Option Nat) (cr:Nat) (bs:List Int):List (List Int):=(List.range cr).map fun c=>bs.filter fun b=>cof b == some c
theorem lists_nil (cof:Int→Option Nat) (cr:Nat):lists cof cr []=List.replicate cr []:=by
 unfold lists
 refine List.ext_getElem (by simp) fun i h1 h2=>by simp
theorem q2a {cof:Int→Option Nat} {cr:Nat} {bs:List Int} {c:Nat} (h:c < cr):(lists cof cr bs)[c]?=some (bs.filter fun b=>cof b == some c):=by
 unfold lists
 rw [List.getElem?_map,List.getElem?_range h]
 rfl
theorem lists_snoc {cof:Int→Option Nat} {cr:Nat} {bs:List Int} {b:Int} {c:Nat} (h:c < cr) (hb:cof b=some c):lists cof cr (bs++[b])=(lists cof cr bs).set c ((bs.filter fun b=>cof b == some c)++[b]):=by
 refine List.ext_getElem? fun i=>?_
 by_cases hi:i < cr
 ·rw [q2a hi]
  by_cases e:i=c
  ·subst e
   rw [List.getElem?_set_self (by unfold lists;rw [List.length_map,List.length_range];exact hi),List.filter_append]
   simp [hb]
  ·rw [List.getElem?_set_ne (Ne.symm e),q2a hi,List.filter_append]
   have:(cof b == some i)=false:=by rw [hb];simp;omega
   simp [this]
 ·rw [List.getElem?_eq_none (by unfold lists;rw [List.length_map,List.length_range];omega),List.getElem?_eq_none (by rw [List.length_set];unfold lists;rw [List.length_map,List.length_range];omega)]
section
variable {P:Program} {w:World} {K:W.Frag} {mg:Str→Option Value} {base:Heap} {CE CS CQ CT:Addr}
inductive spDealOfI  (vs:List V) (H:Hp) (Q:VK) (E:XK):Prop
 | mk (a:Addr) (ks:List Int) (cof:Int→Option Nat) (cr:Nat):(vs=[.ref a,.int (cr:Int)])→(CrewAt H a ks cof)→(ks.length≤60)→((∀ b∈ks,∃ c,cof b=some c∧c < cr))→(cr≤100)→(∀ (H':Hp) (l:Addr) (as:List Addr) (bs:List Int),LM H H' l as (lists cof cr bs)→H l=none→bs.Perm ks→bs.Pairwise (·≤·)→Q (.ref l) H')→spDealOfI  vs H Q E
def z1s  : Sp:=fun vs H Q E=>spDealOfI  vs H Q E
theorem scDealOf:FnScope ["crew_of", "crews", "dealing", "bridge"] ["crew_of", "crews"] (q03 q3v):=⟨rfl,rfl,rfl,by decide +kernel,rfl,by decide +kernel,by decide +kernel⟩
theorem ok_dealOf {f:Addr} {fd:FuncData} (T:Txt K mg CE CS CQ CT) (F:Fun K "dealing_of" "dealing_of" q3v f fd) :
  FnOk P w K mg base CX0 1 f fd ["crew_of", "crews"] z1s:=by
 refine F.ok scDealOf (fun vs H Q E h=>?_) (fun cdv A outer s H vs Q E hr h=>?_)
 ·obtain ⟨a,ks,cof,cr,rfl,_⟩:=h
  rfl
 ·obtain ⟨a,ks,cof,cr,rfl,⟨kvs,ha,hks,hval⟩,h60,hcof,hcr2,kQ⟩:=h
  have hu:=hu_of hr
  have nd0:((["crew"]:List Str)++([]:List Str)).Nodup:=by decide +kernel
  refine ⟨_,q02 (z0c (i:=2) (own:=["crew"]) (caps:=[]) (cs:=[]) (sc:=q03 q3v) ⟨rfl,rfl,by decide +kernel,by decide +kernel,by decide +kernel,by decide +kernel,rfl⟩ rfl scDealOf.nd rfl rfl rfl
    (q1i (by rfl) T.range (q00 (pv 1) q04)) (fun _ _ _ _ _=>q0k (i:=0) nd0 rfl (Or.inl rfl) (.inr rfl)) (fun _ _ _ _ _=>q3c) (fun _ _ _ _ _=>q1q q04))
   (q02 (q21 PassesOwn.never rfl (q19 (q0b (q8b rfl) (by rfl) T.sorted q1v (q00 (pv 0) q04))) (q0k (i:=3) scDealOf.nd rfl (Or.inl rfl))
    (q06 (q0q (q3n PySem.F.plainAttrs_list PySem.F.slot_list_append PySem.F.type_list_append q15 (q0n q0g (pv 2) (q7e hu (pv 0) (pv 3) (fun _ _=>rfl)) (fun _ _=>rfl)) (q00 (pv 3) q04)))))
   (q06 (q0i (pv 2)))),?_⟩
  try dsimp only [cx_of,cx_nox,cx_comp]
  refine ⟨_,rfl,(cr:Int),rfl,by omega,by omega,fun la hla=>?_⟩
  refine q4c (n:=((cr:Int)).toNat) (fun i ys H2=>∃ as,ys=as.map V.ref∧as.length=i∧Same H H2∧H2 la=some (.lst ys)∧(∀ a∈as,H2 a=some (.lst [])∧H a=none∧a≠la)∧as.Nodup) ⟨[],rfl,rfl,Same.rfl'.new hla,q01,fun a ha=>by simp at ha,by simp⟩ (fun i ys H2 hi hv=>?_) (fun i ys H2 hi hv=>?_) (fun ys H1 hv=>?_)
  ·obtain ⟨as,rfl,hl,_⟩:=hv
   rw [List.length_map,hl]
   exact q0c (by omega)
  ·obtain ⟨as,rfl,hl,s2,hl2,hfr,hnd⟩:=hv
   refine ⟨hi,fun K1 k1 y H' yy=>?_⟩
   obtain ⟨rfl,rfl⟩:=yy
   refine ⟨rfl,by show 0≤sizeLine;decide,fun t ht=>k1 _ _ ((Same.rfl'.new ht) _ _ hl2) ⟨as++[t],by rw [List.map_append];rfl,by rw [List.length_append,hl];rfl,?_,q01,fun a ha=>?_,?_⟩⟩
   ·exact (s2.tr (Same.rfl'.new ht)).new hla
   ·have nt:t≠la:=Ne.symm (q05 hl2 ht)
    rcases List.mem_append.mp ha with ha | ha
    ·obtain ⟨f0,f1,f2⟩:=hfr a ha
     refine ⟨?_,f1,f2⟩
     rw [q08 f2]
     exact (Same.rfl'.new ht) _ _ f0
    ·rw [List.mem_singleton] at ha
     subst ha
     exact ⟨by rw [q08 nt];exact q01,s2.free ht,nt⟩
   ·refine List.nodup_append.mpr ⟨hnd,by simp,fun a ha b hb e=>?_⟩
    rw [List.mem_singleton] at hb
    subst hb
    subst e
    have:=(hfr a ha).1
    rw [ht] at this
    cases this
  obtain ⟨as,rfl,hl,s1,hl1,hfr,hnd⟩:=hv
  refine ⟨Nat.le_refl _,?_⟩
  have ecr:((cr:Int)).toNat=cr:=by omega
  have M0:LM H H1 la as (lists cof cr []):=by
   rw [lists_nil]
   refine ⟨s1,hl1,by rw [hl,List.length_replicate];omega,fun k a g h1 h2=>?_,fun a ha=>(hfr a ha).2,hnd⟩
   rw [List.getElem?_replicate] at h2
   split at h2
   ·cases h2
    exact (hfr a (List.mem_of_getElem? h1)).1
   ·cases h2
  refine ⟨_,rfl,a,kvs,ks,rfl,s1 _ _ ha,hks,by omega,fun d bs hd hp hs=>⟨_,rfl,⟨_,SqL.of q01⟩,?_⟩⟩
  have M1:LM H (upd H1 d (.lst (bs.map V.int))) la as (lists cof cr []):=M0.same2 (Same.rfl'.new hd)
  refine q1x (K:=K) (a:=d) (xs:=bs.map V.int) (fun i σ H2=>LM H H2 la as (lists cof cr (bs.take i))∧LI H2 d bs∧∃ u,σ=[some (.ref a),some (.int (cr:Int)),some (.ref la),u]) ⟨M1,q01,_,rfl⟩ (fun i σ H2 _ ⟨_,e,_⟩=>SqL.of e) ?_ ?_
  ·rintro i x σ H2 hi ⟨M,hd2,u,rfl⟩
   rw [List.getElem?_map] at hi
   obtain ⟨b,hb,rfl⟩:=Option.map_eq_some_iff.mp hi
   obtain ⟨c,hc,hcl⟩:=hcof b (hp.mem_iff.mp (List.mem_of_getElem? hb))
   have hcl2:c < (lists cof cr (bs.take i)).length:=by unfold lists;rw [List.length_map,List.length_range];exact hcl
   obtain ⟨ac,hac⟩:∃ x,as[c]?=some x:=⟨_,List.getElem?_eq_getElem (by rw [M.len];exact hcl2)⟩
   have hg:=q2a (cof:=cof) (bs:=bs.take i) hcl
   have hLI:=M.ls c ac _ hac hg
   have hget:DGet H2 a (V.int b) (some (V.int (c:Int))):=by
    have:=DGet.k (k:=Sum.inl b) (M.same _ _ ha)
    rw [hval b,hc] at this
    exact this
   have hsm:(bs.take i).length≤60:=by
    rw [List.length_take]
    have:=hp.length_eq
    omega
   have hfl:((bs.take i).filter fun b=>cof b == some c).length≤60:=Nat.le_trans (List.length_filter_le _ _) hsm
   refine ⟨_,rfl,_,rfl,_,rfl,a,_,rfl,hget,?_⟩
   have hix:atI (as.map V.ref) (c:Int)=some (.ref ac):=q09 (by rw [List.getElem?_map,hac];rfl)
   refine ⟨la,_,_,_,rfl,rfl,SqL.of M.hl,hix,.inl ⟨rfl,_,SqL.of hLI⟩,_,rfl,ac,_,_,rfl,rfl,hLI,?_,?_⟩
   ·rw [List.length_map]
    exact q0c (by omega)
   ·have hne:d≠ac:=fun e=>by
     have:=(hfr ac (List.mem_of_getElem? hac)).1
     rw [← e,hd] at this
     cases this
    refine ⟨?_,by rw [LI,q08 hne];exact hd2,_,rfl⟩
    rw [q0m hb,lists_snoc hcl hc]
    exact M.push hac hg
  ·rintro σ H2 ⟨M,_,u,rfl⟩
   rw [List.length_map,List.take_length] at M
   exact ⟨_,rfl,kQ _ _ _ _ M hla hp hs⟩
end
end K28
namespace K28
open PySem L2 XM
def q51 (ps:PP) (bs:List Int):List Int:=bs.flatMap fun b=>match ps[b.toNat]? with | some p=>[p.1,p.2] | none=>[]
theorem q8l (ps:PP):∀ bs:List Int,(q51 ps bs).length≤2*bs.length
 | []=>by simp [q51]
 | b::r=>by
  have:=q8l ps r
  unfold q51 at this ⊢
  rw [List.flatMap_cons,List.length_append,List.length_cons]
  have:(match ps[b.toNat]? with | some p=>[p.1,p.2] | none=>[]:List Int).length≤2:=by split <;> simp
  omega
theorem z1w {ps:PP}:∀ {bs:List Int},(∀ b∈bs,0≤b∧b < (ps.length:Int))→q51 ps bs=(bs.map (eb ps)).flatMap fun p=>[p.1,p.2]
 | [],_=>rfl
 | b::r,h=>by
  have ih:=z1w (bs:=r) fun x hx=>h x (List.mem_cons_of_mem _ hx)
  obtain ⟨h0,h1⟩:=h b List.mem_cons_self
  have hl:b.toNat < ps.length:=by omega
  have e:eb ps b=ps[b.toNat]:=q2d (List.getElem?_eq_getElem hl)
  unfold q51 at ih ⊢
  rw [List.flatMap_cons,ih,List.map_cons,List.flatMap_cons,e,List.getElem?_eq_getElem hl]
theorem z1c:∀ ps:PP,(ps.flatMap fun p=>[p.1,p.2]).length=2*ps.length
 | []=>rfl
 | p::r=>by
  rw [List.flatMap_cons,List.length_append,z1c r,List.length_cons]
  simp
  omega
section
variable {P:Program} {w:World} {K:W.Frag} {mg:Str→Option Value} {base:Heap} {CE CS CQ CT:Addr}
inductive spTogTI  (vs:List V) (H:Hp) (Q:VK) (E:XK):Prop
 | mk (l:Addr) (xs:List V) (ps:PP):(vs=[.ref l])→(H l=some (.lst xs))→(PV H xs ps)→(ps.length≤100)→(∀ (H':Hp) (m:Addr),Same H H'→H m=none→LI H' m (ps.flatMap fun p=>[p.1,p.2])→Q (.ref m) H')→spTogTI  vs H Q E
def spTogT  : Sp:=fun vs H Q E=>spTogTI  vs H Q E
theorem scTogT:FnScope ["lists", "together", "numbers"] ["lists"] (q03 q23):=⟨rfl,rfl,rfl,by decide +kernel,rfl,by decide +kernel,by decide +kernel⟩
theorem ok_togT {f:Addr} {fd:FuncData} (T:Txt K mg CE CS CQ CT) (F:Fun K "put_together" "put_together" q23 f fd):FnOk P w K mg base CX0 1 f fd ["lists"] spTogT:=by
 refine F.ok scTogT (fun vs H Q E h=>?_) (fun cdv A outer s H vs Q E hr h=>?_)
 ·obtain ⟨l,xs,ps,rfl,_⟩:=h
  rfl
 ·obtain ⟨l,xs,ps,rfl,hl,hx,hn,kQ⟩:=h
  refine ⟨_,q02 (q0a (i:=1) scTogT.nd rfl (Or.inl rfl) (q1q q04))
   (q02 (q21 PassesOwn.never rfl (q19 (pv 0)) (q0k (i:=2) scTogT.nd rfl (Or.inl rfl))
    (q06 (q0q (q3n PySem.F.plainAttrs_list PySem.F.slot_list_extend PySem.F.type_list_extend mt_extendT (pv 1) (q00 (pv 2) q04)))))
   (q06 (q0i (pv 1)))),?_⟩
  try dsimp only [cx_of,cx_nox,cx_comp]
  have hlen:=hx.length
  refine ⟨by show 0≤sizeLine;decide,fun m hm=>?_⟩
  have s0:Same H (upd H m (.lst [])):=Same.rfl'.new hm
  refine ⟨_,rfl,l,rfl,⟨_,SqL.of (s0 _ _ hl)⟩,q1x (K:=K) (a:=l) (xs:=xs) (fun i σ H2=>Same H H2∧LI H2 m ((ps.take i).flatMap fun p=>[p.1,p.2])∧∃ u,σ=[some (.ref l),some (.ref m),u])
   ⟨s0,q01,_,rfl⟩ (fun i σ H2 _ ⟨e,_⟩=>SqL.of (e _ _ hl)) ?_ ?_⟩
  ·rintro i x σ H2 hi ⟨s2,hm2,u,rfl⟩
   obtain ⟨pr,hpr,a,rfl,hat⟩:=hx.get hi
   refine ⟨_,rfl,.inl ⟨rfl,_,SqL.of hm2⟩,_,rfl,m,a,_,_,rfl,rfl,hm2,SqT.of (s2 _ _ hat),?_,?_⟩
   ·rw [List.length_map,z1c,List.length_take]
    exact Nat.le_of_lt (q0c (by show 2*min i ps.length+2≤1000;omega))
   ·refine ⟨fun b o e=>?_,?_,_,rfl⟩
    ·rw [q08 (q05 e hm)]
     exact s2 _ _ e
    ·rw [LI,q01,q0m hpr,List.flatMap_append,List.map_append]
     rfl
  ·rintro σ H2 ⟨s2,hm2,u,rfl⟩
   rw [hlen,List.take_length] at hm2
   exact ⟨_,rfl,kQ H2 m s2 hm hm2⟩
inductive spEndsOfI (CT:Addr) (vs:List V) (H:Hp) (Q:VK) (E:XK):Prop
 | mk (p l2 l:Addr) (q:Int) (xs:List V) (ps:PP) (bs:List Int):(vs=[.ref p,.ref l])→(TownAt CT H p l2 q xs)→(PV H xs ps)→(LI H l bs)→(bs.length≤60)→((∀ b∈bs,0≤b∧b < (ps.length:Int)))→(∀ d H',Same H H'→H d=none→LI H' d (q51 ps bs)→Q (.ref d) H')→spEndsOfI CT vs H Q E
def z1j (CT:Addr):Sp:=fun vs H Q E=>spEndsOfI CT vs H Q E
theorem scEndsOf:FnScope ["town", "bridges"] ["town", "bridges"] (q03 q42):=⟨rfl,rfl,rfl,by decide +kernel,rfl,by decide +kernel,by decide +kernel⟩
theorem ok_endsOf {f f1:Addr} {fd fd1:FuncData} (T:Txt K mg CE CS CQ CT) (F:Fun K "ends_of" "ends_of" q42 f fd) (G1:FnOk P w K mg base CX0 1 f1 fd1 ["lists"] spTogT) (b1:Binds K fd1 ["lists"] []) (m1:mg "put_together" = some (.ref f1)) (k1:W.keepIn K (.ref f1)=true) :
  FnOk P w K mg base CX0 2 f fd ["town", "bridges"] (z1j CT):=by
 refine F.ok scEndsOf (fun vs H Q E h=>?_) (fun cdv A outer s H vs Q E hr h=>?_)
 ·obtain ⟨p,l2,l,q,xs,ps,bs,rfl,_⟩:=h
  rfl
 ·obtain ⟨p,l2,l,q,xs,ps,bs,rfl,⟨⟨dx,ht⟩,hl2⟩,hpv,hl,h60,hb,kQ⟩:=h
  have nd0:((["bridge"]:List Str)++(["town"]:List Str)).Nodup:=by decide +kernel
  refine ⟨_,q06 (q0i (q0h G1 hr (by rfl) m1 k1 b1 .nil q1a (q00 (q30 (own:=["bridge"]) (caps:=["town"]) (cs:=[0]) (sc:=q03 q42) ⟨rfl,rfl,by decide +kernel,by decide +kernel,by decide +kernel,by decide +kernel,rfl⟩ rfl
   (q19 (pv 1)) (fun _ _ _ _ _=>q0k (i:=0) nd0 rfl (Or.inl rfl) (.inr rfl)) (fun _ _ _ _ _=>q3c) (fun _ _ _ _ _=>q0n q0g (q3q (pv 1) rfl) (pv 0) (fun _ _=>rfl))) q04))),?_⟩
  try dsimp only [cx_of,cx_nox,cx_comp]
  have hlen:=hpv.length
  refine ⟨_,rfl,l,rfl,⟨_,SqL.of hl⟩,fun D hD=>?_⟩
  refine q4c (n:=bs.length) (fun i ys H2=>Same H H2∧H2 D=some (.lst ys)∧PV H2 ys ((bs.take i).map (eb ps))) ⟨Same.rfl'.new hD,q01,.nil⟩ (fun i ys H2 hi hv=>?_) (fun i ys H2 hi hv=>?_) (fun ys H2 hv=>?_)
  ·have:=hv.2.2.length
   rw [List.length_map,List.length_take] at this
   exact q0c (by omega)
  ·obtain ⟨sm,hy,hA⟩:=hv
   have q1:(bs.map V.int)[i]?=some (.int bs[i]):=by rw [List.getElem?_map,List.getElem?_eq_getElem hi];rfl
   refine ⟨⟨_,_,SqL.of (sm _ _ hl),q1⟩,fun K1 k1 x H' y=>?_⟩
   obtain ⟨rfl,e⟩:=y
   have ex:=e _ (SqL.of (sm _ _ hl))
   rw [q1] at ex
   cases ex
   obtain ⟨b0,b1⟩:=hb bs[i] (List.getElem_mem hi)
   have hbn:bs[i].toNat < xs.length:=by omega
   obtain ⟨z,hz⟩:∃ z,xs[bs[i].toNat]?=some z:=⟨xs[bs[i].toNat],List.getElem?_eq_getElem hbn⟩
   obtain ⟨pr,hpr,pa,rfl,hat⟩:=hpv.get hz
   have eeb:eb ps bs[i]=pr:=q2d hpr
   have ea:atI xs bs[i]=some (.ref pa):=by
    have:=q09 hz
    rwa [show ((bs[i].toNat:Nat):Int)=bs[i] by omega] at this
   refine ⟨rfl,_,rfl,p,CT,dx,_,_,rfl,sm _ _ ht,T.cl,T.nb,q5m _ _,_,rfl,l2,_,_,_,rfl,rfl,SqL.of (sm _ _ hl2),ea,k1 _ _ hy ⟨sm.new hD,q01,?_⟩⟩
   rw [q4g (List.getElem?_eq_getElem hi),eeb]
   refine All2.append (hA.mono fun b ys' e=>?_) (.cons ⟨pa,rfl,?_⟩ .nil)
   ·rw [q08 (q5q e hy (by intro z;cases z))]
    exact e
   ·rw [q08 (q5q (sm _ _ hat) hy (by intro z;cases z))]
    exact sm _ _ hat
  ·obtain ⟨s2,hD2,hA⟩:=hv
   rw [List.take_length] at hA
   refine ⟨⟨_,SqL.of (s2 _ _ hl),by rw [List.length_map];exact Nat.le_refl _⟩,D,ys,_,rfl,hD2,hA,by rw [List.length_map];omega,fun H' m s' hm hl'=>?_⟩
   rw [← z1w hb] at hl'
   exact kQ m H' (s2.tr s') (s2.free hm) hl'
end
end K28
namespace K28
open PySem L2 XM
def meets (g qs:List Int):Bool:=g.any fun x=>qs.contains x
def q4b (nss:List (List Int)) (qs:List Int):List (List Int):=nss.filter fun g=>!meets g qs
def q1e (nss:List (List Int)) (qs:List Int):List Int:=(nss.filter fun g=>meets g qs).flatten
theorem q2g (ns:List Int) (k:Int):((q0j ns).any fun x=>x == k)=ns.contains k:=by
 rw [Bool.eq_iff_iff,List.any_eq_true,List.contains_iff_mem]
 constructor
 ·rintro ⟨x,hx,e⟩
  have:x=k:=by simpa using e
  subst this
  exact mem_distinct.mp hx
 ·intro h
  exact ⟨k,mem_distinct.mpr h,by simp⟩
theorem meets_iff {g qs:List Int}:(∀ k,(((q0j g).any fun x=>x == k) && ((q0j qs).any fun x=>x == k))=false)↔meets g qs=false:=by
 unfold meets
 rw [List.any_eq_false]
 constructor
 ·intro h x hx
  have:=h x
  rw [q2g,q2g,List.contains_iff_mem.mpr hx,Bool.true_and] at this
  rw [this]
  exact Bool.false_ne_true
 ·intro h k
  rw [q2g,q2g]
  by_cases hk:k∈g
  ·have:=h k hk
   rw [Bool.not_eq_true] at this
   rw [this,Bool.and_false]
  ·have:g.contains k=false:=by rw [Bool.eq_false_iff];exact fun z=>hk (List.contains_iff_mem.mp z)
   rw [this,Bool.false_and]
theorem q35 {α β:Type} {R:α→β→Prop}:∀ {xs:List α} {ys:List β} {x:α} {y:β},All2 R xs ys→R x y→All2 R (xs++[x]) (ys++[y])
 | _,_,_,_,.nil,h=>.cons h .nil
 | _,_,_,_,.cons a t,h=>.cons a (q35 t h)
theorem q7k {α β:Type} {R:α→β→Prop} {xs:List α} {ys:List β} {d:α} {e:β} (h:All2 R xs ys):∀ {l:List Nat},(∀ i∈l,i < xs.length)→All2 R (l.map fun i=>xs.getD i d) (l.map fun i=>ys.getD i e)
 | [],_=>.nil
 | i::r,hl=>by
  have hi:=hl i List.mem_cons_self
  obtain ⟨y,hy,hr⟩:=h.get (List.getElem?_eq_getElem hi)
  refine .cons ?_ (q7k h fun j hj=>hl j (List.mem_cons_of_mem _ hj))
  show R (xs.getD i d) (ys.getD i e)
  rw [List.getD_eq_getElem?_getD,List.getD_eq_getElem?_getD,List.getElem?_eq_getElem hi,hy]
  exact hr
theorem q4i {α:Type} {ys:List α} {e:α} {l:List Nat} (h:l.Perm (List.range ys.length)):(l.map fun i=>ys.getD i e).Perm ys:=by
 refine (h.map _).trans ?_
 have:(List.range ys.length).map (fun i=>ys.getD i e)=ys:=by
  refine List.ext_getElem (by simp) fun i h1 h2=>?_
  rw [List.getElem_map,List.getElem_range,List.getD_eq_getElem?_getD,List.getElem?_eq_getElem h2]
  rfl
 rw [this]
theorem q90 (nss:List (List Int)) (qs:List Int):(q4b nss qs).length≤nss.length:=List.length_filter_le _ _
theorem q6q (nss:List (List Int)) (qs:List Int):(q1e nss qs).length≤nss.flatten.length:=by
 unfold q1e
 induction nss with
 | nil=>simp
 | cons g r ih=>
  rw [List.filter_cons]
  split
  ·rw [List.flatten_cons,List.flatten_cons,List.length_append,List.length_append]
   omega
  ·rw [List.flatten_cons,List.length_append]
   omega
section
variable {P:Program} {w:World} {K:W.Frag} {mg:Str→Option Value} {base:Heap} {CE CS CQ CT:Addr}
inductive spWithHudI  (vs:List V) (H:Hp) (Q:VK) (E:XK):Prop
 | mk (lh lq:Addr) (xs:List V) (nss:List (List Int)) (qs:List Int):(vs=[.ref lh,.ref lq])→(H lh=some (.lst xs))→(LS H xs nss)→(LI H lq qs)→(nss.length < 60)→(qs.length≤200)→(nss.flatten.length≤200)→((q0j (qs++q1e nss qs)).length < 64)→(∀ (H':Hp) (l:Addr) (zs:List V) (mss:List (List Int)) (m:List Int),Same H H'→H l=none→H' l=some (.lst zs)→LS H' zs mss→mss.Perm (q4b nss qs++[m])→m.Perm (q0j (qs++q1e nss qs))→m.Pairwise (·≤·)→(∀ z∈zs,z∈xs∨∃ a,z=.ref a∧H a=none)→(xs.Nodup→zs.Nodup)→((q4b nss qs++[m]).Nodup→mss.Pairwise fun a b=>lexI a b=true)→Q (.ref l) H')→spWithHudI  vs H Q E
def q8d  : Sp:=fun vs H Q E=>spWithHudI  vs H Q E
theorem scWithHud:FnScope ["huddles", "quarters", "apart", "joined", "huddle"] ["huddles", "quarters"] (q03 q3g):=⟨rfl,rfl,rfl,by decide +kernel,rfl,by decide +kernel,by decide +kernel⟩
theorem ok_withHud {f:Addr} {fd:FuncData} (T:Txt K mg CE CS CQ CT) (F:Fun K "with_huddle" "with_huddle" q3g f fd) :
  FnOk P w K mg base CX0 1 f fd ["huddles", "quarters"] q8d:=by
 refine F.ok scWithHud (fun vs H Q E h=>?_) (fun cdv A outer s H vs Q E hr h=>?_)
 ·obtain ⟨lh,lq,xs,nss,qs,rfl,_⟩:=h
  rfl
 ·obtain ⟨lh,lq,xs,nss,qs,rfl,hlh,hls,hlq,hn60,hq,hfl,h64,kQ⟩:=h
  have hu:=hr.units
  refine ⟨_,q02 (q0a (i:=2) scWithHud.nd rfl (Or.inl rfl) (q1q q04))
   (q02 (q0a (i:=3) scWithHud.nd rfl (Or.inl rfl) (q1h q5d (by rfl) T.list q39 (q00 (pv 1) q04)))
   (q02 (q21 PassesOwn.never rfl (q19 (pv 0)) (q0k (i:=4) scWithHud.nd rfl (Or.inl rfl))
    (q06 (q11 (q0p q2z (q0b q9m (by rfl) T.len PySem.boot_len (q00 (q0o op_andSet (q1h (c_set rfl) (by rfl) T.set q4k (q00 (pv 4) q04)) (q1h (c_set rfl) (by rfl) T.set q4k (q00 (pv 1) q04))) q04)) q07 (q0u _))
     (q06 (q0q (q3n PySem.F.plainAttrs_list PySem.F.slot_list_append PySem.F.type_list_append q15 (pv 2) (q00 (pv 4) q04))))
     (q06 (q0q (q3n PySem.F.plainAttrs_list PySem.F.slot_list_extend PySem.F.type_list_extend q8t (pv 3) (q00 (pv 4) q04)))))))
   (q06 (q0i (q0b (q4y hu) (by rfl) T.sorted q1v (q00 (q0o op_cat (pv 2) (q1q (q00 (q3a rfl (by rfl) T.sorted q1v (by rfl) T.set q4k (q00 (pv 3) q04)) q04))) q04)))))),?_⟩
  try dsimp only [cx_of,cx_nox,cx_comp]
  have hlen:=hls.length
  refine ⟨by show 0≤sizeLine;decide,fun d1 hd1=>⟨_,rfl,lq,_,rfl,.inl (SqL.of ((Same.rfl'.new hd1) _ _ hlq)),fun d2 hd2=>?_⟩⟩
  have n12:d1≠d2:=fun e=>by rw [← e,q01] at hd2;cases hd2
  have hd2':H d2=none:=(Same.rfl'.new hd1).free hd2
  refine ⟨_,rfl,lh,rfl,⟨_,SqL.of (((Same.rfl'.new hd1).tr (Same.rfl'.new hd2)) _ _ hlh)⟩,?_⟩
  refine q1x (K:=K) (a:=lh) (xs:=xs) (fun i σ H2=>(∃ zs,Same H H2∧H2 d1=some (.lst zs)∧LS H zs (q4b (nss.take i) qs)∧zs.Sublist (xs.take i)∧LI H2 d2 (qs++q1e (nss.take i) qs))∧∃ u,σ=[some (.ref lh),some (.ref lq),some (.ref d1),some (.ref d2),u])
   ⟨⟨[],(Same.rfl'.new hd1).tr (Same.rfl'.new hd2),by rw [q08 n12,q01],.nil,by simp,by rw [LI,q01];simp [q1e]⟩,_,rfl⟩ (fun i σ H2 _ ⟨⟨_,e,_⟩,_⟩=>SqL.of (e _ _ hlh)) ?_ ?_
  ·rintro i x σ H2 hi ⟨⟨zs,s2,hz2,hzs,hsub,hj2⟩,u,rfl⟩
   obtain ⟨g,hg,a,rfl,hag⟩:=hls.get hi
   have hgl:g.length≤200:=Nat.le_trans (q62 (List.mem_of_getElem? hg)) hfl
   have ha2:LI H2 a g:=s2 _ _ hag
   refine ⟨_,rfl,a,g,rfl,SqL.of ha2,by show g.length+1 < 4096;omega,fun e1 he1=>?_⟩
   have t1:Same H2 (upd H2 e1 (.set (fun k=>(q0j g).any (· == k)) (q0j g).length)):=Same.rfl'.new he1
   refine ⟨_,rfl,lq,qs,rfl,SqL.of (t1 _ _ (s2 _ _ hlq)),by show qs.length+1 < 4096;omega,fun e2 he2=>?_⟩
   have n12e:e1≠e2:=fun e=>by rw [← e,q01] at he2;cases he2
   refine ⟨e1,e2,_,_,_,_,rfl,rfl,n12e,by rw [q08 n12e,q01],q01,fun e3 m he3 hm0 hmb=>?_⟩
   have t3:=(t1.tr (Same.rfl'.new he2)).tr (Same.rfl'.new he3 (o:=.set (fun k=>((q0j g).any fun x=>x == k) && (q0j qs).any fun x=>x == k) m))
   refine ⟨e3,_,m,rfl,q01,by have:scanBound=4096:=rfl;omega,rfl,_,rfl,?_⟩
   rw [q25]
   have hz3:=t3 _ _ hz2
   have hj3:=t3 _ _ hj2
   have s23:=s2.tr t3
   have hal:(q4b (nss.take i) qs).length≤60:=by
    have h1:=q90 (nss.take i) qs
    have h2:(nss.take i).length≤nss.length:=by rw [List.length_take];omega
    omega
   have hjl:(q1e (nss.take i) qs).length≤200:=by
    have h1:=q6q (nss.take i) qs
    have h2:=q34 nss i
    omega
   have hzl:=hzs.length
   refine ite2 (fun h=>?_) (fun h=>?_)
   ·have hm:meets g qs=false:=meets_iff.mp (hm0.mp (by have:=of_decide_eq_true h;omega))
    refine ⟨_,rfl,.inl ⟨rfl,_,SqL.of hz3⟩,_,rfl,d1,_,_,rfl,rfl,hz3,q0c (by omega),⟨zs++[.ref a],fun c o e=>by rw [q08 (q05 e hd1)];exact s23 _ _ e,q01,?_,?_,?_⟩,_,rfl⟩
    ·rw [q0m hg,q4b,List.filter_append]
     simp only [List.filter_cons,hm,Bool.not_false,if_true,List.filter_nil]
     exact q35 hzs ⟨a,rfl,hag⟩
    ·rw [q0m hi]
     exact hsub.append (List.Sublist.refl _)
    ·rw [LI,q08 (Ne.symm n12),q0m hg,q1e,List.filter_append]
     simp only [List.filter_cons,hm,Bool.false_eq_true,if_false,List.filter_nil,List.append_nil]
     exact hj3
   ·have hm:meets g qs=true:=by
     rw [← Bool.not_eq_false]
     exact fun z=>h (decide_eq_true (by have:=hm0.mpr (meets_iff.mpr z);omega))
    refine ⟨_,rfl,.inl ⟨rfl,_,SqL.of hj3⟩,_,rfl,d2,a,_,_,rfl,rfl,hj3,t3 _ _ ha2,?_,⟨zs,fun c o e=>by rw [q08 (q05 e hd2')];exact s23 _ _ e,by rw [q08 n12];exact hz3,?_,?_,?_⟩,_,rfl⟩
    ·rw [List.length_map,List.length_map]
     exact Nat.le_of_lt (q0c (by rw [List.length_append];omega))
    ·rw [q0m hg,q4b,List.filter_append]
     simp only [List.filter_cons,hm,Bool.not_true,Bool.false_eq_true,if_false,List.filter_nil,List.append_nil]
     exact hzs
    ·rw [q0m hi]
     exact hsub.trans (List.sublist_append_left _ _)
    ·have ej:q1e (nss.take i++[g]) qs=q1e (nss.take i) qs++g:=by
      unfold q1e
      rw [List.filter_append]
      simp [List.filter_cons,hm]
     rw [LI,q01,q0m hg,ej,← List.map_append,List.append_assoc]
  ·rintro σ H2 ⟨⟨zs,s2,hz2,hzs,hsub,hj2⟩,u,rfl⟩
   have hsub:zs.Sublist xs:=hsub.trans (List.take_sublist _ _)
   rw [hlen,List.take_length] at hzs hj2
   have hzl:=hzs.length
   have hal:=q90 nss qs
   have hjl:=q6q nss qs
   refine ⟨_,rfl,_,rfl,d2,_,rfl,SqL.of hj2,by show (qs++q1e nss qs).length+1 < 4096;rw [List.length_append];omega,h64,fun d ns' hd hp hs=>⟨by show 1≤sizeLine;decide,fun p1 hp1=>?_⟩⟩
   have t1:Same H2 (upd H2 d (.lst (ns'.map V.int))):=Same.rfl'.new hd
   have t2:=t1.tr (Same.rfl'.new hp1 (o:=.lst [.ref d]))
   refine ⟨d1,p1,_,_,rfl,rfl,t2 _ _ hz2,q01,?_,fun p2 hp2=>?_⟩
   ·exact Nat.le_of_lt (q0c (by show zs.length+1≤1000;omega))
   have t3:=t2.tr (Same.rfl'.new hp2 (o:=.lst (zs++[.ref d])))
   have nd1:d≠p1:=fun e=>by rw [← e,q01] at hp1;cases hp1
   have hd3:LI (upd (upd (upd H2 d (.lst (ns'.map V.int))) p1 (.lst [.ref d])) p2 (.lst (zs++[.ref d]))) d ns':=((Same.rfl'.new hp1).tr (Same.rfl'.new hp2)) _ _ q01
   have hLS:LS (upd (upd (upd H2 d (.lst (ns'.map V.int))) p1 (.lst [.ref d])) p2 (.lst (zs++[.ref d]))) (zs++[.ref d]) (q4b nss qs++[ns']):=q35 (hzs.same (s2.tr t3)) ⟨d,rfl,hd3⟩
   have hLl:=hLS.length
   refine ⟨p2,zs++[.ref d],q4b nss qs++[ns'],rfl,SqL.of q01,hLl,fun i z ns hz hn=>?_,by rw [List.length_append,List.length_singleton];omega,fun dd l hdd hperm hord=>?_⟩
   ·obtain ⟨g,hg,a,rfl,ha⟩:=hLS.get hz
    rw [hn] at hg
    cases hg
    exact ⟨a,rfl,SqL.of ha⟩
   ·have t4:=t3.tr (Same.rfl'.new hdd (o:=.lst (l.map fun i=>(zs++[V.ref d]).getD i .non)))
    refine kQ _ dd _ _ ns' (s2.tr t4) ((s2.tr t3).free hdd) q01 (q7k (e:=[]) (All2.imp (fun x g ⟨a,e,ha⟩=>⟨a,e,(Same.rfl'.new hdd) _ _ ha⟩) hLS) fun i hi=>List.mem_range.mp (hperm.mem_iff.mp hi)) (q4i (by rw [← hLl];exact hperm)) hp hs ?_ ?_ hord
    ·intro z hz
     rcases List.mem_append.mp ((q4i (e:=V.non) hperm).mem_iff.mp hz) with h | h
     ·exact .inl (hsub.subset h)
     ·exact .inr ⟨d,List.mem_singleton.mp h,s2.free hd⟩
    ·intro hnx
     refine ((q4i (e:=V.non) hperm).nodup_iff).mpr (List.nodup_append.mpr ⟨hsub.nodup hnx,by simp,fun x hx y hy e=>?_⟩)
     rw [List.mem_singleton] at hy
     subst hy
     subst e
     obtain ⟨i,hi⟩:=List.mem_iff_getElem?.mp (hsub.subset hx)
     obtain ⟨g,_,a,ea,hag⟩:=hls.get hi
     cases ea
     have:=s2.free hd
     rw [hag] at this
     cases this
end
end K28
namespace K28
open PySem L2 XM
theorem q81:bootBuiltins "any" = some (.builtin "any"):=by decide +kernel
def q6l (p:Int × Int) (nss:List (List Int)):Bool:=nss.any fun g=>g.contains p.1 && g.contains p.2
section
variable {P:Program} {w:World} {K:W.Frag} {mg:Str→Option Value} {base:Heap} {CE CS CQ CT:Addr}
inductive spLiesI  (vs:List V) (H:Hp) (Q:VK) (E:XK):Prop
 | mk (t lh:Addr) (p:Int × Int) (xs:List V) (nss:List (List Int)):(vs=[.ref t,.ref lh])→(H t=some (.tup [.int p.1,.int p.2]))→(H lh=some (.lst xs))→(LS H xs nss)→(nss.length≤60)→(∀ H',Same H H'→Q (.bl (q6l p nss)) H')→spLiesI  vs H Q E
def spLies  : Sp:=fun vs H Q E=>spLiesI  vs H Q E
theorem scLies:FnScope ["ends", "huddles"] ["ends", "huddles"] (q03 q9n):=⟨rfl,rfl,rfl,by decide +kernel,rfl,by decide +kernel,by decide +kernel⟩
theorem ok_lies {f:Addr} {fd:FuncData} (T:Txt K mg CE CS CQ CT) (F:Fun K "lies_within" "lies_within" q9n f fd) :
  FnOk P w K mg base CX0 1 f fd ["ends", "huddles"] spLies:=by
 refine F.ok scLies (fun vs H Q E h=>?_) (fun cdv A outer s H vs Q E hr h=>?_)
 ·obtain ⟨t,lh,p,xs,nss,rfl,_⟩:=h
  rfl
 ·obtain ⟨t,lh,p,xs,nss,rfl,ht,hlh,hls,hn,kQ⟩:=h
  have nd0:((["huddle"]:List Str)++(["ends"]:List Str)).Nodup:=by decide +kernel
  refine ⟨_,q06 (q0i (q0b (q9g rfl) (by rfl) T.any q81 (q00 (q30 (own:=["huddle"]) (caps:=["ends"]) (cs:=[0]) (sc:=q03 q9n) ⟨rfl,rfl,by decide +kernel,by decide +kernel,by decide +kernel,by decide +kernel,rfl⟩ rfl
   (q19 (pv 1)) (fun _ _ _ _ _=>q0k (i:=0) nd0 rfl (Or.inl rfl) (.inr rfl))
   (fun _ _ _ _ _=>q3c) (fun _ _ _ _ _=>z18 (q4q q5i (q0n q18 (pv 1) q07 (fun _ _=>rfl)) (pv 0) rfl) (pe_one (q4q q5i (q0n q18 (pv 1) q07 (fun _ _=>rfl)) (pv 0) rfl)))) q04))),?_⟩
  try dsimp only [cx_of,cx_nox,cx_comp]
  have hlen:=hls.length
  refine ⟨_,rfl,lh,rfl,⟨_,SqL.of hlh⟩,fun D hD=>q4h (n:=nss.length) hD (fun i=>(nss.take i).map fun g=>V.bl (g.contains p.1 && g.contains p.2)) rfl (fun i hi=>?_) (fun i H2 hi sm hD2=>?_) (fun H2 sm hD2=>?_)⟩
  ·rw [List.length_map,List.length_take]
   exact q0c (by omega)
  ·obtain ⟨z,hz⟩:∃ z,xs[i]?=some z:=⟨_,List.getElem?_eq_getElem (by omega)⟩
   obtain ⟨g,hg,a,rfl,hag0⟩:=hls.get hz
   have hag:LI H2 a g:=sm _ _ hag0
   have ht2:=sm _ _ ht
   refine ⟨⟨_,_,SqL.of (sm _ _ hlh),hz⟩,fun K1 K2 k1 k2 x H' yy=>?_⟩
   obtain ⟨rfl,e⟩:=yy
   have ex':=e _ (SqL.of (sm _ _ hlh))
   rw [hz] at ex'
   cases ex'
   have fin:∀ b:Bool,b=(g.contains p.1 && g.contains p.2)→K1 (V.bl b) H':=fun b hb=>k1 _ _ Same.rfl' (by rw [q0m hg,List.map_append,hb];rfl)
   refine ⟨rfl,noIf (A:=fun _ H3=>tAndV _ _ _ H3 K1) (B:=fun _ H3=>K2 H3) ?_⟩
   refine ⟨_,rfl,t,_,_,_,rfl,rfl,SqT.of ht2,q09 (j:=0) rfl,_,rfl,a,_,rfl,.inl (SqL.of hag),rfl,q49 _,_,rfl,?_⟩
   rw [show (if false=true then !inV (V.int p.1) (g.map V.int) else inV (V.int p.1) (g.map V.int))=g.contains p.1 from by rw [if_neg Bool.false_ne_true,q55]]
   refine ite2 (fun h=>?_) (fun h=>?_)
   ·refine ⟨_,rfl,t,_,_,_,rfl,rfl,SqT.of ht2,q09 (j:=1) rfl,_,rfl,a,_,rfl,.inl (SqL.of hag),rfl,q49 _,?_⟩
    rw [show (if false=true then !inV (V.int p.2) (g.map V.int) else inV (V.int p.2) (g.map V.int))=g.contains p.2 from by rw [if_neg Bool.false_ne_true,q55]]
    exact fin _ (by rw [h,Bool.true_and])
   ·exact fin _ (by rw [Bool.eq_false_iff.mpr h,Bool.false_and])
  ·refine ⟨⟨_,SqL.of (sm _ _ hlh),by omega⟩,D,nss.map fun g=>g.contains p.1 && g.contains p.2,rfl,SqL.of ?_,?_⟩
   ·rw [hD2,List.take_length,List.map_map]
    rfl
   ·have e:(nss.map fun g=>g.contains p.1 && g.contains p.2).any id=q6l p nss:=by
     unfold q6l
     rw [List.any_map]
     rfl
    rw [e]
    exact kQ H2 sm
end
end K28
namespace K28
open PySem L2 XM
def PushAt (H:Hp) (a:Addr) (ks:List Int) (pf:Int→Option (Option Int)):Prop:=∃ kvs:List (Key × V),H a=some (.dK kvs)∧kvs.map (·.1)=ks.map Sum.inl∧∀ b,valV kvs (Sum.inl b)=(pf b).map fun o=>match o with | some c=>V.int c | none=>V.non
def Row (pf:Int→Option (Option Int)):List Int→Prop
 | []=>False
 | [b]=>pf b=some none
 | b::c::r=>pf b=some (some c)∧Row pf (c::r)
def q87 (cof:Int→Option Nat) (c:Nat):List Int→(Int→Option Nat)
 | []=>cof
 | b::r=>q87 (fun x=>if x=b then some c else cof x) ((cof b).getD 0) r
theorem keys_put (kvs:List (Key × V)) (ks:List Int) (x:Int) (v:V) (o:Option V) (hk:kvs.map (·.1)=ks.map Sum.inl) (ho:valV kvs (Sum.inl x)=o):(putK kvs (Sum.inl x) v).map (·.1)=(if o.isSome then ks else ks++[x]).map Sum.inl:=by
 unfold putK
 rw [q28,ho]
 cases o with
 | none=>simp [hk]
 | some y=>
  simp only [Option.isSome_some,if_true]
  rw [← hk,List.map_map]
  refine List.map_congr_left fun kv _=>?_
  simp only [Function.comp]
  split <;> rfl
theorem CrewAt.put {H:Hp} {a:Addr} {ks:List Int} {cf:Int→Option Nat} {kvs:List (Key × V)} (ha:H a=some (.dK kvs)) (hk:kvs.map (·.1)=ks.map Sum.inl) (hv:∀ b,valV kvs (Sum.inl b)=(cf b).map fun (c:Nat)=>V.int (c:Int)) (x:Int) (c:Nat) :
  CrewAt (upd H a (.dK (putK kvs (Sum.inl x) (V.int (c:Int))))) a (if (cf x).isSome then ks else ks++[x]) (fun y=>if y=x then some c else cf y):=by
 refine ⟨_,q01,?_,fun b=>?_⟩
 ·rw [keys_put kvs ks x _ _ hk (hv x)]
  cases cf x <;> rfl
 ·rw [q59,hv b]
  by_cases e:b=x
  ·subst e
   simp
  ·rw [if_neg (fun z=>e (Sum.inl.inj z))]
   simp only [if_neg e]
theorem CrewAt.key {H:Hp} {a:Addr} {ks:List Int} {cof:Int→Option Nat} (h:CrewAt H a ks cof) (b:Int):b∈ks↔(cof b).isSome=true:=by
 obtain ⟨kvs,_,hk,hv⟩:=h
 cases e:cof b with
 | none=>
  have h1:valV kvs (Sum.inl b)=none:=by rw [hv b,e];rfl
  have:=q9u h1
  rw [hk] at this
  exact ⟨fun q=>absurd (List.mem_map.mpr ⟨b,q,rfl⟩) this,fun q=>by cases q⟩
 | some c=>
  have h1:valV kvs (Sum.inl b)=some (V.int (c:Int)):=by rw [hv b,e];rfl
  have:=q5h h1
  rw [hk] at this
  obtain ⟨y,hy,ey⟩:=List.mem_map.mp this
  cases ey
  exact ⟨fun _=>rfl,fun _=>hy⟩
theorem nodup_put {ks:List Int} {x:Int} {o:Bool} (h:ks.Nodup) (hx:x∈ks↔o=true):(if o=true then ks else ks++[x]).Nodup:=by
 split
 ·exact h
 ·rename_i ho
  refine List.nodup_append.mpr ⟨h,by simp,fun a ha c hc q=>?_⟩
  rw [List.mem_singleton] at hc
  subst hc
  subst q
  exact ho (hx.mp ha)
section
variable {P:Program} {w:World} {K:W.Frag} {mg:Str→Option Value} {base:Heap} {CE CS CQ CT:Addr}
theorem scMakeRoom:FnScope ["crew_of", "end", "pushed_by", "bridge", "crew", "left"] ["crew_of", "end", "pushed_by"] (q03 q2q):=⟨rfl,rfl,rfl,by decide +kernel,rfl,by decide +kernel,by decide +kernel⟩
inductive spMakeRoomI  (vs:List V) (H:Hp) (Q:VK) (E:XK):Prop
 | mk (a t b:Addr) (ks kp:List Int) (cof:Int→Option Nat) (pf:Int→Option (Option Int)) (e:Int) (r:List Int) (c:Nat):(vs=[.ref a,.ref t,.ref b])→(a≠b)→(CrewAt H a ks cof)→(H t=some (.tup [.int e,.int (c:Int)]))→(PushAt H b kp pf)→(Row pf (e::r))→((e::r).Nodup)→((∀ x∈(e::r).dropLast,(cof x).isSome=true))→(ks.length < 1000)→(ks.Nodup)→(∀ (H':Hp) (ks':List Int),CrewAt H' a ks' (q87 cof c (e::r))→(∀ d o,d≠a→H d=some o→H' d=some o)→ks'.length≤ks.length+1→ks'.Nodup→Q .non H')→spMakeRoomI  vs H Q E
def q6f  : Sp:=fun vs H Q E=>spMakeRoomI  vs H Q E
theorem q9y {f:Addr} {fd:FuncData} (T:Txt K mg CE CS CQ CT) (F:Fun K "make_room" "make_room" q2q f fd) :
  FnOk P w K mg base CX0 1 f fd ["crew_of", "end", "pushed_by"] q6f:=by
 refine F.ok scMakeRoom (fun vs H Q E h=>?_) (fun cdv A outer s H vs Q E hr h=>?_)
 ·obtain ⟨a,t,b,ks,kp,cof,pf,e,r,c,rfl,_⟩:=h
  rfl
 ·obtain ⟨a,t,b,ks,kp,cof,pf,e,r,c,rfl,hab,ha,ht,hb,hrow,hnd,hin,h1000,hknd,kQ⟩:=h
  have hu:=hu_of hr
  refine ⟨_,q02 (q0a (i:=3) scMakeRoom.nd rfl (Or.inl rfl) (q0n q18 (pv 1) q07 (fun _ _=>rfl)))
   (q02 (q0a (i:=4) scMakeRoom.nd rfl (Or.inl rfl) (q0n q18 (pv 1) q07 (fun _ _=>rfl)))
   (q06 (q57 PassesOwn.never (q4m (pc_notN (pv 3)))
    (q02 (q0a (i:=5) scMakeRoom.nd rfl (Or.inl rfl) (pe_dget1 hu (pv 0) (pv 3) ⟨rfl,rfl,rfl,rfl⟩))
    (q02 (z03 hu (pv 0) (pv 3) (pv 4) rfl)
    (q02 (q0a (i:=4) scMakeRoom.nd rfl (Or.inl rfl) (pv 5))
    (q06 (q0a (i:=3) scMakeRoom.nd rfl (Or.inl rfl) (q7e hu (pv 2) (pv 3) (fun _ _=>rfl)))))))))),?_⟩
  try dsimp only [cx_of,cx_nox,cx_comp]
  refine ⟨_,rfl,t,_,_,_,rfl,rfl,SqT.of ht,q09 (j:=0) rfl,_,rfl,t,_,_,_,rfl,rfl,SqT.of ht,q09 (j:=1) rfl,?_⟩
  refine ⟨fun m σ H2=>∃ (cf:Int→Option Nat) (ks2:List Int) (lv:Option V) (cv bv:V) (rest:List Int),σ=[some (.ref a),some (.ref t),some (.ref b),some bv,some cv,lv]∧m=rest.length∧CrewAt H2 a ks2 cf∧(∀ d o,d≠a→H d=some o→H2 d=some o)∧ks2.Nodup∧
   ((rest=[]∧bv=.non∧cf=q87 cof c (e::r)∧ks2.length≤ks.length+1)∨∃ (x:Int) (rr:List Int) (c2:Nat),rest=x::rr∧bv=.int x∧cv=.int (c2:Int)∧q87 cf c2 (x::rr)=q87 cof c (e::r)∧Row pf (x::rr)∧(x::rr).Nodup∧(∀ y∈(x::rr).dropLast,(cf y).isSome=true)∧ks2.length≤ks.length),
   ⟨_,cof,ks,none,_,_,e::r,rfl,rfl,ha,fun _ _ _ q=>q,hknd,.inr ⟨e,r,c,rfl,rfl,rfl,rfl,hrow,hnd,hin,Nat.le_refl _⟩⟩,?_⟩
  rintro m σ H2 ⟨cf,ks2,lv,cv,bv,rest,rfl,rfl,⟨kvs,hk1,hk2,hk3⟩,hkeep,hnd0,hcase⟩
  rcases hcase with ⟨rfl,rfl,rfl,hl⟩ | ⟨x,rr,c2,rfl,rfl,rfl,hsh,hrow2,hnd2,hin2,hl⟩
  ·refine ⟨_,rfl,_,rfl,?_⟩
   exact iteF (kQ _ _ ⟨kvs,hk1,hk2,hk3⟩ hkeep hl hnd0)
  ·obtain ⟨kvp,hp1,hp2,hp3⟩:=hb
   have hkl:kvs.length < 1000:=by
    have:=congrArg List.length hk2
    rw [List.length_map,List.length_map] at this
    omega
   have hput:=CrewAt.put hk1 hk2 hk3 x c2
   have hnd9:=nodup_put hnd0 (CrewAt.key ⟨kvs,hk1,hk2,hk3⟩ x)
   have hp4:(upd H2 a (.dK (putK kvs (Sum.inl x) (V.int (c2:Int))))) b=some (.dK kvp):=by rw [q08 (Ne.symm hab)];exact hkeep _ _ (Ne.symm hab) hp1
   have hkeep2:∀ d o,d≠a→H d=some o→(upd H2 a (.dK (putK kvs (Sum.inl x) (V.int (c2:Int))))) d=some o:=fun d o hd q=>by rw [q08 hd];exact hkeep _ _ hd q
   have hg:DGet H2 a (V.int x) ((cf x).map fun (c:Nat)=>V.int (c:Int)):=by
    have:=DGet.k (k:=Sum.inl x) hk1
    rw [hk3 x] at this
    exact this
   have hgp:∀ o,pf x=some o→DGet (upd H2 a (.dK (putK kvs (Sum.inl x) (V.int (c2:Int))))) b (V.int x) (some (match o with | some c=>V.int c | none=>V.non)):=fun o ho=>by
    have:=DGet.k (k:=Sum.inl x) hp4
    rw [hp3 x,ho] at this
    exact this
   refine ⟨_,rfl,_,rfl,?_⟩
   refine iteT ⟨_,fun σ' H' z=>z,?_⟩
   refine ⟨_,rfl,a,rfl,.inl ⟨kvs,.inl hk1⟩,_,rfl,_,hg,_,rfl,_,rfl,_,rfl,a,_,rfl,DPut.k (k:=Sum.inl x) hk1 (Nat.lt_trans hkl (by rw [sizeLine_eq];decide)),_,rfl,_,rfl,_,rfl,b,?_⟩
   cases rr with
   | nil=>
    refine ⟨_,rfl,hgp none hrow2,0,by simp,_,_,_,_,_,[],rfl,rfl,hput,hkeep2,hnd9,.inl ⟨rfl,rfl,hsh,?_⟩⟩
    split
    ·omega
    ·rw [List.length_append,List.length_singleton];omega
   | cons y rr'=>
    obtain ⟨hpx,hrow3⟩:=hrow2
    have hsx:=hin2 x (by simp [List.dropLast])
    obtain ⟨c3,hc3⟩:=Option.isSome_iff_exists.mp hsx
    rw [hc3] at hput hnd9 ⊢
    refine ⟨_,rfl,hgp (some y) hpx,(y::rr').length,by simp,_,_,_,_,_,y::rr',rfl,rfl,hput,hkeep2,hnd9,.inr ⟨y,rr',c3,rfl,rfl,rfl,?_,hrow3,(List.nodup_cons.mp hnd2).2,fun z hz=>?_,?_⟩⟩
    ·rw [← hsh]
     show _=q87 (fun x_1=>if x_1=x then some c2 else cf x_1) ((cf x).getD 0) (y::rr')
     rw [hc3]
     rfl
    ·by_cases e:z=x
     ·rw [if_pos e]
      rfl
     ·rw [if_neg e]
      exact hin2 z (by rw [List.dropLast_cons_of_ne_nil (by simp)];exact List.mem_cons_of_mem _ hz)
    ·exact hl
end
end K28
namespace K28
open PySem L2 XM GM
def pvO:Option Int→V
 | some c=>.int c
 | none=>.non
def kvO (st:PSt):List (Key × V):=st.map fun p=>(Sum.inl p.1,pvO p.2)
def WayR (ps:PP) (q:Int) (ls:List (List Int)) (c:Nat) (b:Int):Option (List Int)→Prop
 | none=>∃ bs,ls[c]?=some bs∧∀ m,¬ RLn (stp ps bs) (eb ps b).1 m (eb ps b).2
 | some ms=>∃ bs tl,ls[c]?=some bs∧Way (stp ps bs) q.toNat (eb ps b).1 (eb ps b).2 tl∧ms=tl.map (·.1)
structure StOk (n:Nat) (st:PSt):Prop where
 nd:(st.map (·.1)).Nodup
 rng:∀ x∈st.map (·.1),0≤x∧x < (n:Int)
theorem StOk.len {n:Nat} {st:PSt} (h:StOk n st):st.length≤n:=by
 have:=q1c (st.map (·.1)) (upto (n:Int)) h.nd fun y hy=>mem_upto.mpr (h.rng y hy)
 rw [q7c,List.length_map] at this
 omega
theorem StOk.scan1 {n:Nat} {st:PSt} (h:StOk n st) {b m:Int} (hm:0≤m∧m < (n:Int)):StOk n (scan1 b st m):=by
 unfold GM.scan1
 split
 ·exact h
 ·rename_i hn
  refine ⟨?_,fun x hx=>?_⟩
  ·rw [List.map_append]
   refine List.nodup_append.mpr ⟨h.nd,by simp,fun a ha c hc q=>?_⟩
   simp only [List.map_cons,List.map_nil,List.mem_singleton] at hc
   subst hc
   subst q
   exact hn ha
  ·rw [List.map_append] at hx
   rcases List.mem_append.mp hx with hx | hx
   ·exact h.rng x hx
   ·simp only [List.map_cons,List.map_nil,List.mem_singleton] at hx
    rw [hx]
    exact hm
theorem kv_val {st:PSt} {m:Int}:(valV (kvO st) (Sum.inl m)).isSome=true↔m∈st.map (·.1):=by
 have hk:(kvO st).map (·.1)=(st.map (·.1)).map Sum.inl:=by
  unfold kvO
  rw [List.map_map,List.map_map]
  rfl
 cases e:valV (kvO st) (Sum.inl m) with
 | none=>
  have:=q9u e
  rw [hk] at this
  exact ⟨fun h=>(by cases h),fun h=>absurd (List.mem_map.mpr ⟨m,h,rfl⟩) this⟩
 | some v=>
  have:=q5h e
  rw [hk] at this
  obtain ⟨y,hy,ey⟩:=List.mem_map.mp this
  cases ey
  exact ⟨fun _=>hy,fun _=>rfl⟩
theorem kv_put {st:PSt} {m b:Int} (h:¬ m∈st.map (·.1)):putK (kvO st) (Sum.inl m) (V.int b)=kvO (st++[(m,some b)]):=by
 have e:valV (kvO st) (Sum.inl m)=none:=by
  cases q:valV (kvO st) (Sum.inl m) with
  | none=>rfl
  | some v=>exact absurd (kv_val.mp (by rw [q];rfl)) h
 unfold putK
 rw [q28,e]
 unfold kvO
 rw [List.map_append]
 rfl
structure RM (H H2:Hp) (d qa:Addr) (st:PSt):Prop where
 same:Same H H2
 hd:H2 d=some (.dK (kvO st))
 hq:LI H2 qa (st.map (·.1))
theorem RM.tr {H H2 H3:Hp} {d qa:Addr} {st:PSt} (r:RM H H2 d qa st) (s:Same H2 H3):RM H H3 d qa st:=⟨r.same.tr s,s _ _ r.hd,s _ _ r.hq⟩
theorem way_in {ps:PP} {bs:List Int} {x y:Int} {tl:List (Int × Int)} (h:Pth (stp ps bs) x tl y):∀ m∈tl.map (·.1),m∈bs:=by
 induction h with
 | nil=>intro m hm;simp at hm
 | @cons x z y b tl hb _ ih=>
  intro m hm
  rcases List.mem_cons.mp hm with e | e
  ·rw [e]
   exact (mem_stp.mp hb).1
  ·exact ih m e
def plc5:St→Nat:=fun σ=>match (σ[5]?:Option (Option V)) with
 | some (some (V.int i))=>i.toNat
 | _=>0
section
variable {P:Program} {w:World} {K:W.Frag} {mg:Str→Option Value} {base:Heap} {CE CS CQ CT:Addr}
inductive spRoomForI (CT:Addr) (vs:List V) (H:Hp) (Q:VK) (E:XK):Prop
 | mk (p l2:Addr) (q:Int) (ys:List V) (ps:PP) (l:Addr) (as:List Addr) (ls:List (List Int)) (b0:Int):(vs=[.ref p,.ref l,.int b0])→(TownAt CT H p l2 q ys)→(PV H ys ps)→(fits q ps=true)→(H l=some (.lst (as.map V.ref)))→(as.length=ls.length)→((∀ (k:Nat) a g,as[k]?=some a→ls[k]?=some g→LI H a g))→((∀ g∈ls,g.length≤100∧∀ b∈g,0≤b∧b < ps.length))→((0≤b0∧b0 < ps.length))→((∀ (H':Hp) (t d:Addr) (st:PSt),Same H H'→H d=none→H' t=some (.tup [.non,.ref d])→H' d=some (.dK (kvO st))→StOk ps.length st→RoomR (WayR ps q ls) ls.length 0 [(b0,none)] none st→Q (.ref t) H'))→((∀ (H':Hp) (t t2 d:Addr) (st:PSt) (b:Int) (c:Nat),Same H H'→H d=none→H' t=some (.tup [.ref t2,.ref d])→H' t2=some (.tup [.int b,.int (c:Int)])→H' d=some (.dK (kvO st))→StOk ps.length st→RoomR (WayR ps q ls) ls.length 0 [(b0,none)] (some (b,c)) st→Q (.ref t) H'))→spRoomForI CT vs H Q E
def q8f (CT:Addr):Sp:=fun vs H Q E=>spRoomForI CT vs H Q E
theorem scRoomFor:FnScope ["town", "dealing", "first", "pushed_by", "queue", "place", "bridge", "ends", "crew", "own", "way", "met"] ["town", "dealing", "first"] (q03 q3f):=⟨rfl,rfl,rfl,by decide +kernel,rfl,by decide +kernel,by decide +kernel⟩
theorem ok_roomFor {f f1:Addr} {fd fd1:FuncData} (T:Txt K mg CE CS CQ CT) (F:Fun K "room_for" "room_for" q3f f fd)
  (G1:FnOk P w K mg base CX0 2 f1 fd1 ["town", "some", "one", "other"] (q92 CT)) (b1:Binds K fd1 ["town", "some", "one", "other"] []) (m1:mg "way_between" = some (.ref f1)) (k1:W.keepIn K (.ref f1)=true) :
  FnOk P w K mg base CX0 3 f fd ["town", "dealing", "first"] (q8f CT):=by
 refine F.ok scRoomFor (fun vs H Q E h=>?_) (fun cdv A outer s H vs Q E hr h=>?_)
 ·obtain ⟨p,l2,q,ys,ps,l,as,ls,b0,rfl,_⟩:=h
  rfl
 ·obtain ⟨p,l2,q,ys,ps,l,as,ls,b0,rfl,ht,hp,hft,hl,hal,hls,hgs,⟨hb0,hb1⟩,kN,kW⟩:=h
  have hu:=hu_of hr
  refine ⟨_,q02 (q0a (i:=3) scRoomFor.nd rfl (Or.inl rfl) (pe_disp (z1d (pv 2) q6e pps_nil) rfl rfl (by simp) (by decide)))
   (q02 (q0a (i:=4) scRoomFor.nd rfl (Or.inl rfl) (q1q (q00 (pv 2) q04)))
   (q02 (q0a (i:=5) scRoomFor.nd rfl (Or.inl rfl) q07)
   (q02 (q57 PassesOwn.never (q0p op_lt (pv 5) (q0b q48 (by rfl) T.len PySem.boot_len (q00 (pv 4) q04)) (q0u _))
    (q02 (q0a (i:=6) scRoomFor.nd rfl (Or.inl rfl) (q0n q0g (pv 4) (pv 5) (fun _ _=>rfl)))
    (q02 (q0a (i:=7) scRoomFor.nd rfl (Or.inl rfl) (q0n q0g (q3q (pv 0) rfl) (pv 6) (fun _ _=>rfl)))
    (q02 (q21 PassesOwn.never rfl (pi_enum (by rfl) T.enum (q00 (pv 1) q04)) (q8c (n:=2) rfl (q1w (q0k (i:=8) scRoomFor.nd rfl (Or.inl rfl)) (q1w (q0k (i:=9) scRoomFor.nd rfl (Or.inl rfl)) q5l)))
     (q02 (q0a (i:=10) scRoomFor.nd rfl (Or.inl rfl) (q0h G1 hr (by rfl) m1 k1 b1 .nil q1a (q00 (pv 0) (q00 (pv 9) (q00 (q0n q18 (pv 7) q07 (fun _ _=>rfl)) (q00 (q0n q18 (pv 7) q07 (fun _ _=>rfl)) q04))))))
     (q02 (q11 (q4m (z19 (pv 10))) (q06 (q0i (q1u (q00 (q1u (q00 (pv 6) (q00 (pv 8) q04))) (q00 (pv 3) q04))))) q0f)
     (q06 (q21 PassesOwn.never rfl (q19 (pv 10)) (q0k (i:=11) scRoomFor.nd rfl (Or.inl rfl))
      (q06 (q11 (q4m (q60 hu (pv 11) (pv 3)))
       (q02 (z03 hu (pv 3) (pv 11) (pv 6) rfl)
       (q06 (q0q (q3n PySem.F.plainAttrs_list PySem.F.slot_list_append PySem.F.type_list_append q15 (pv 4) (q00 (pv 11) q04))))) q0f)))))))
    (q06 (ps_aug (i:=5) scRoomFor.nd rfl (Or.inl rfl) q07 ip_add))))))
   (q06 (q0i (q1u (q00 q6e (q00 (pv 3) q04)))))))),?_⟩
  try dsimp only [cx_of,cx_nox,cx_comp]
  obtain ⟨⟨hq1,hq2⟩,h60,hok⟩:=q1z hft
  have hlen:=hp.length
  intro d hd
  refine ⟨_,rfl,q01,[(Sum.inl b0,.non)],rfl,by show 1≤15;decide,?_⟩
  have e0:upd (upd H d (.dK [])) d (.dK (q5b [] [(Sum.inl b0,V.non)]))=upd H d (.dK (kvO [(b0,none)])):=by rw [upd_upd];rfl
  rw [e0]
  refine ⟨_,rfl,by show 1≤sizeLine;decide,fun qa hqa=>?_⟩
  have hqa':H qa=none:=(Same.rfl'.new (o:=HO.dK (kvO [(b0,none)])) hd).free hqa
  have ndq:d≠qa:=q05 q01 hqa
  have R0:RM H (upd (upd H d (.dK (kvO [(b0,none)]))) qa (.lst [V.int b0])) d qa [(b0,none)]:=⟨(Same.rfl'.new hd).tr (Same.rfl'.new hqa),by rw [q08 ndq];exact q01,q01⟩
  have O0:StOk ps.length [(b0,none)]:=⟨by simp,fun x hx=>by simp at hx;rw [hx];exact ⟨hb0,hb1⟩⟩
  have ends:∀ b,0≤b→b < (ps.length:Int)→(0≤(eb ps b).1∧(eb ps b).1 < q):=fun b h0 h1=>by
   have hl:b.toNat < ps.length:=by omega
   have e:eb ps b=ps[b.toNat]:=q2d (List.getElem?_eq_getElem hl)
   have:=hok _ (List.getElem_mem hl)
   unfold q0z at this
   simp only [Bool.and_eq_true,decide_eq_true_eq] at this
   rw [e]
   exact this.1
  refine q7n (fun σ H2=>∃ (st:PSt) (pl:Nat) (u1 u2 u3 u4 u5 u6:Option V),RM H H2 d qa st∧StOk ps.length st∧pl≤st.length∧(∀ r st',RoomR (WayR ps q ls) ls.length pl st r st'→RoomR (WayR ps q ls) ls.length 0 [(b0,none)] r st')∧σ=[some (.ref p),some (.ref l),some (.int b0),some (.ref d),some (.ref qa),some (.int ((pl:Nat):Int)),u1,u2,u3,u4,u5,u6])
   (fun σ _=>ps.length - plc5 σ) ⟨[(b0,none)],0,_,_,_,_,_,_,R0,O0,by simp,fun _ _ z=>z,rfl⟩ ?_ ?_
  ·rintro σ H2 ⟨st,pl,u1,u2,u3,u4,u5,u6,R,O,hpl,hcont,rfl⟩
   refine ⟨_,rfl,_,rfl,qa,_,rfl,.inl (SqL.of R.hq),_,_,rfl,rfl,_,rfl,?_⟩
   rw [List.length_map,List.length_map]
   have hO:=O.len
   by_cases hlt:pl < st.length
   rotate_left
   ·rw [decide_eq_false (show ¬ ((pl:Nat):Int) < (st.length:Int) by omega)]
    refine iteF ⟨_,rfl,by show 2≤sizeLine;decide,fun t ht2=>?_⟩
    have s1:Same H2 (upd H2 t (.tup [.non,.ref d])):=Same.rfl'.new ht2
    exact kN _ t d st (R.same.tr s1) hd q01 (s1 _ _ R.hd) O (hcont _ _ (.out (by omega)))
   rw [decide_eq_true (show ((pl:Nat):Int) < (st.length:Int) by omega)]
   obtain ⟨⟨b,pb⟩,hb⟩:∃ y,st[pl]?=some y:=⟨_,List.getElem?_eq_getElem hlt⟩
   have hbq:(st.map (·.1))[pl]?=some b:=by rw [List.getElem?_map,hb];rfl
   obtain ⟨hbr0,hbr1⟩:=O.rng b (List.mem_of_getElem? hbq)
   have eb':((b.toNat:Nat):Int)=b:=by omega
   obtain ⟨dx,htp⟩:=ht.1
   have ht2:=ht.same R.same
   obtain ⟨⟨dx2,htp2⟩,htl2⟩:=ht2
   have hbps:b.toNat < ps.length:=by omega
   obtain ⟨pr,hpr⟩:∃ pr,ps[b.toNat]?=some pr:=⟨_,List.getElem?_eq_getElem hbps⟩
   have hyl:b.toNat < ys.length:=by omega
   obtain ⟨yv,hyv⟩:∃ y,ys[b.toNat]?=some y:=⟨_,List.getElem?_eq_getElem hyl⟩
   obtain ⟨pr',hpr',ta,rfl,hta⟩:=hp.get hyv
   have hee:eb ps b=pr':=q2d hpr'
   have hta2:=R.same _ _ hta
   have htown:=hta2
   refine iteT ⟨_,rfl,_,rfl,qa,_,_,_,rfl,rfl,SqL.of R.hq,q09 (v:=.int b) (by rw [List.getElem?_map,hbq];rfl),?_⟩
   refine ⟨_,rfl,p,CT,dx2,_,_,rfl,htp2,T.cl,T.nb,q5m _ _,_,rfl,l2,_,_,V.ref ta,rfl,rfl,SqL.of htl2,by rw [← eb'];exact q09 hyv,?_⟩
   have hl2:=R.same _ _ hl
   refine ⟨_,rfl,l,_,rfl,SqL.of hl2,?_⟩
   refine for_enum (K:=K) (a:=l) (xs:=as.map V.ref) (fun j σ H3=>∃ (st2:PSt) (v3 v4 v5 v6:Option V),RM H H3 d qa st2∧StOk ps.length st2∧(∃ more,st2=st++more)∧(∀ r st',CrewR (WayR ps q ls) b ls.length j st2 r st'→CrewR (WayR ps q ls) b ls.length 0 st r st')∧σ=[some (.ref p),some (.ref l),some (.int b0),some (.ref d),some (.ref qa),some (.int ((pl:Nat):Int)),some (.int b),some (.ref ta),v3,v4,v5,v6])
    ⟨st,_,_,_,_,R,O,⟨[],by simp⟩,fun _ _ z=>z,rfl⟩ (fun j σ H3 _ ⟨_,_,_,_,_,R3,_⟩=>SqL.of (R3.same _ _ hl)) ?_ ?_
   ·rintro j av σ H3 t hj ⟨st2,v3,v4,v5,v6,R3,O3,⟨more,emore⟩,hc3,rfl⟩ hft3
    rw [List.getElem?_map] at hj
    obtain ⟨a,haj,rfl⟩:=Option.map_eq_some_iff.mp hj
    have hjl:j < ls.length:=by
     have:=(List.getElem?_eq_some_iff.mp haj).1
     omega
    obtain ⟨g,hg⟩:∃ g,ls[j]?=some g:=⟨_,List.getElem?_eq_getElem hjl⟩
    obtain ⟨hg100,hgr⟩:=hgs g (List.mem_of_getElem? hg)
    have s3:Same H3 (upd H3 t (.tup [.int (j:Int),.ref a])):=Same.rfl'.new hft3
    have R4:=R3.tr s3
    refine ⟨t,_,rfl,SqT.of q01,rfl,_,_,rfl,_,_,rfl,rfl,?_⟩
    have hta4:=R4.same _ _ hta
    refine ⟨_,rfl,_,rfl,_,rfl,ta,_,_,_,rfl,rfl,SqT.of hta4,q09 (j:=0) rfl,_,rfl,ta,_,_,_,rfl,rfl,SqT.of hta4,q09 (j:=1) rfl,?_⟩
    have hen:=ends b hbr0 hbr1
    rw [hee] at hen
    refine ⟨p,l2,q,ys,ps,a,g,pr'.1,pr'.2,rfl,ht.same R4.same,hp.same R4.same,hft,R4.same _ _ (hls j a g haj hg),hg100,hgr,hen,fun hno H5 s5=>?_,fun H5 wd tl s5 hwd hwl hway=>?_⟩
    ·refine ⟨_,rfl,_,rfl,?_⟩
     refine iteT ⟨_,rfl,_,rfl,by show 2≤sizeLine;decide,fun t3 ht3=>⟨_,rfl,by show 2≤sizeLine;decide,fun t4 ht4=>?_⟩⟩
     have s6:Same H5 (upd H5 t3 (.tup [.int b,.int (j:Int)])):=Same.rfl'.new ht3
     have s7:=s6.tr (Same.rfl'.new (o:=.tup [.ref t3,.ref d]) ht4)
     have R7:=(R4.tr s5).tr s7
     refine kW _ t4 t3 d st2 b j R7.same hd q01 ((Same.rfl'.new ht4) _ _ q01) R7.hd O3 (hcont _ _ (.found hb (hc3 _ _ (.stop hjl ⟨g,hg,fun m hm=>hno m ?_⟩))))
     rw [hee] at hm
     exact hm
    ·have R5:=R4.tr s5
     have nwd:wd≠d:=Ne.symm (q05 R4.hd hwd)
     have nwq:wd≠qa:=Ne.symm (q05 R4.hq hwd)
     have hrg:∀ m∈tl.map (·.1),0≤m∧m < (ps.length:Int):=fun m hm=>hgr m (way_in hway.pth m hm)
     refine ⟨_,rfl,_,rfl,?_⟩
     refine iteF ⟨_,rfl,wd,rfl,⟨_,SqL.of hwl⟩,?_⟩
     refine q1x (K:=K) (a:=wd) (xs:=(tl.map (·.1)).map V.int) (fun i σ H6=>∃ (v6:Option V),RM H H6 d qa (scan b st2 ((tl.map (·.1)).take i))∧StOk ps.length (scan b st2 ((tl.map (·.1)).take i))∧LI H6 wd (tl.map (·.1))∧σ=[some (.ref p),some (.ref l),some (.int b0),some (.ref d),some (.ref qa),some (.int ((pl:Nat):Int)),some (.int b),some (.ref ta),some (.int (j:Int)),some (.ref a),some (.ref wd),v6])
      ⟨_,R5,O3,hwl,rfl⟩ (fun i σ H6 _ ⟨_,_,_,e,_⟩=>SqL.of e) ?_ ?_
     ·rintro i mv σ H6 hi ⟨v6,R6,O6,hwl6,rfl⟩
      rw [List.getElem?_map] at hi
      obtain ⟨m,hm,rfl⟩:=Option.map_eq_some_iff.mp hi
      have hmr:=hrg m (List.mem_of_getElem? hm)
      have et:=q0m hm
      have hO6:=O6.len
      rw [et,scan_snoc]
      generalize scan b st2 ((tl.map (·.1)).take i)=st6 at R6 O6 hO6
      refine ⟨_,rfl,_,rfl,d,_,rfl,DGet.k (k:=Sum.inl m) R6.hd,_,rfl,?_⟩
      have hval:=kv_val (st:=st6) (m:=m)
      by_cases hin:m∈st6.map (·.1)
      ·rw [hval.mpr hin]
       refine iteF ⟨_,?_,?_,hwl6,rfl⟩
       ·unfold scan1
        rw [if_pos hin]
        exact R6
       ·unfold scan1
        rw [if_pos hin]
        exact O6
      ·have hvn:(valV (kvO st6) (Sum.inl m)).isSome=false:=by
        cases e:(valV (kvO st6) (Sum.inl m)).isSome with
        | false=>rfl
        | true=>exact absurd (hval.mp e) hin
       rw [hvn]
       have hkl:(kvO st6).length=st6.length:=by unfold kvO;rw [List.length_map]
       have hq7:(upd H6 d (.dK (putK (kvO st6) (Sum.inl m) (V.int b)))) qa=some (.lst ((st6.map (·.1)).map V.int)):=by
        rw [q08 (Ne.symm ndq)]
        exact R6.hq
       refine iteT ⟨_,rfl,_,rfl,_,rfl,d,_,rfl,DPut.k (k:=Sum.inl m) R6.hd (q0c (by omega)),?_⟩
       refine ⟨_,rfl,.inl ⟨rfl,_,SqL.of hq7⟩,_,rfl,qa,_,_,rfl,rfl,hq7,by rw [List.length_map,List.length_map];exact q0c (by omega),?_⟩
       refine ⟨_,?_,?_,?_,rfl⟩
       ·unfold scan1
        rw [if_neg hin]
        refine ⟨fun c o e=>?_,?_,?_⟩
        ·rw [q08 (q05 e hqa'),q08 (q05 e hd)]
         exact R6.same _ _ e
        ·rw [q08 ndq,q01,kv_put hin]
        ·rw [LI,q01,List.map_append,List.map_append]
         rfl
       ·exact O6.scan1 hmr
       ·rw [LI,q08 nwq,q08 nwd]
        exact hwl6
     ·rintro σ H6 ⟨v6,R6,O6,hwl6,rfl⟩
      rw [List.length_map,List.take_length] at R6 O6
      obtain ⟨mo2,emo2⟩:=q53 (b:=b) (tl.map (·.1)) st2
      refine ⟨_,_,_,_,_,R6,O6,⟨more++mo2,by rw [emo2,emore,List.append_assoc]⟩,fun r st' hR=>hc3 _ _ (.go hjl ⟨g,tl,hg,?_,rfl⟩ hR),rfl⟩
      rw [hee]
      exact hway
   ·rintro σ H3 ⟨st2,v3,v4,v5,v6,R3,O3,⟨more,emore⟩,hc3,rfl⟩
    rw [List.length_map,hal] at hc3
    refine ⟨_,rfl,_,_,rfl,rfl,⟨⟨st2,pl+1,_,_,_,_,_,_,R3,O3,?_,fun r st' hR=>hcont _ _ (.next hb (hc3 _ _ .done) hR),rfl⟩,?_⟩⟩
    ·rw [emore,List.length_append]
     omega
    ·show ps.length - ((pl:Int)+1).toNat < ps.length - ((pl:Nat):Int).toNat
     omega
  ·rintro σ H2 Q1 Q2 k ⟨a1,b1,a2,b2,a3,a4,b3,b4,a5,a6,b5,b6,c1,c2,q⟩
   exact ⟨a1,b1,a2,b2,a3,a4,b3,b4,a5,a6,b5,b6,c1,c2,k _ _ q⟩
end
end K28
namespace K28
open PySem L2 XM GM
theorem z08 {ps:PP} {q:Int} (hok:∀ p∈ps,q0z q p=true) (b:Int):0≤(eb ps b).1∧0≤(eb ps b).2:=by
 unfold eb
 by_cases hl:b.toNat < ps.length
 ·have e:ps.getD b.toNat (0,0)=ps[b.toNat]:=q2d (List.getElem?_eq_getElem hl)
  have:=hok _ (List.getElem_mem hl)
  unfold q0z at this
  simp only [Bool.and_eq_true,decide_eq_true_eq] at this
  rw [e]
  exact ⟨this.1.1,this.2.1.1⟩
 ·have e:ps.getD b.toNat (0,0)=(0,0):=by rw [List.getD_eq_getElem?_getD,List.getElem?_eq_none (by omega)];rfl
  rw [e]
  exact ⟨Int.le_refl _,Int.le_refl _⟩
theorem cn_rl {ps:PP} {q:Int} (hok:∀ p∈ps,q0z q p=true) {bs:List Int} {x y:Int} (c:Cn (eb ps) (fun b=>b∈bs) x y):∃ m,RLn (stp ps bs) x m y:=by
 induction c with
 | refl=>exact ⟨0,.refl⟩
 | @fwd b _ hb ih=>
  obtain ⟨m,h⟩:=ih
  have:=(z08 hok b).1
  exact ⟨m+1,.step h (mem_stp.mpr ⟨hb,.inl ⟨by omega,rfl⟩⟩)⟩
 | @bwd b _ hb ih=>
  obtain ⟨m,h⟩:=ih
  have:=(z08 hok b).2
  exact ⟨m+1,.step h (mem_stp.mpr ⟨hb,.inr ⟨by omega,rfl⟩⟩)⟩
theorem pth_pa {ps:PP} {q:Int} (hok:∀ p∈ps,q0z q p=true) {bs:List Int} {x y:Int} {tl:List (Int × Int)} (h:Pth (stp ps bs) x tl y):0≤x→Pa (eb ps) (fun b=>b∈bs) x tl y:=by
 induction h with
 | nil=>exact fun _=>.nil
 | @cons x z y b tl hb _ ih=>
  intro hx
  obtain ⟨h1,⟨e,rfl⟩ | ⟨e,rfl⟩⟩:=mem_stp.mp hb
  ·refine .cons h1 (.inl ?_) (ih (z08 hok b).2)
   rw [show x=(eb ps b).1 by omega]
  ·refine .cons h1 (.inr ?_) (ih (z08 hok b).1)
   rw [show x=(eb ps b).2 by omega]
def WP (ps:PP) (q:Int) (n:Nat) (cof:Int→Option Nat) (W:WR):Prop:=∃ ls:List (List Int),W=WayR ps q ls∧ls.length=n∧∀ (c:Nat) bs,ls[c]?=some bs→∀ b,b∈bs↔cof b=some c
theorem wp_ok {ps:PP} {q:Int} {n:Nat} (hok:∀ p∈ps,q0z q p=true) {cof:Int→Option Nat} {W:WR} (h:WP ps q n cof W) (fo:∀ c,Forest (eb ps) (Fc cof c)):WOk (eb ps) cof W:=by
 obtain ⟨ls,rfl,_,hls⟩:=h
 constructor
 ·rintro c b ⟨bs,hb,hno⟩ hc
  obtain ⟨m,hm⟩:=cn_rl hok (bs:=bs) (hc.mono fun e he=>(hls c bs hb e).mpr he)
  exact hno m hm
 ·rintro c b ms ⟨bs,tl,hb,hway,rfl⟩
  have hp:=pth_pa hok hway.pth (z08 hok b).1
  have F:Forest (eb ps) fun b=>b∈bs:=(fo c).mono fun e he=>(hls c bs hb e).mp he
  have up:∀ {S:Int→Prop} {x y:Int},Cn (eb ps) (fun e=>S e∧e∈tl.map (·.1)) x y→Cn (eb ps) (fun e=>e∈tl.map (·.1)) x y:=fun h=>h.mono fun e he=>he.2
  refine ⟨fun m hm=>?_,hp.cn.mono fun e he=>⟨(hls c bs hb e).mp he.1,he.2⟩⟩
  obtain ⟨h1,h2⟩:=Pa.only F hp hway.nd m hm
  refine ⟨(hls c bs hb m).mp h1,fun z=>h2 (z.mono fun e he=>⟨(hls c bs hb e).mpr he.1,he.2⟩),?_⟩
  exact up (hp.on _ (hp.ends m hm).1)
theorem wp_fn {ps:PP} {q:Int} {n:Nat} (hok:∀ p∈ps,q0z q p=true) {cof:Int→Option Nat} {W W':WR} (h:WP ps q n cof W) (h':WP ps q n cof W') (fo:∀ c,Forest (eb ps) (Fc cof c)) {c:Nat} {b:Int} {o o':Option (List Int)} (hc:W c b o) (hc':W' c b o'):o=o':=by
 have hno:∀ {W W':WR} {ms},WP ps q n cof W→WP ps q n cof W'→W c b none→W' c b (some ms)→False:=fun h h' a b'=>(wp_ok hok h fo).none c b a (((wp_ok hok h' fo).some c b _ b').2.mono fun e he=>he.1)
 cases o with
 | none=>
  cases o' with
  | none=>rfl
  | some ms=>exact (hno h h' hc hc').elim
 | some ms=>
  cases o' with
  | none=>exact (hno h' h hc' hc).elim
  | some ms'=>
   obtain ⟨ls,rfl,_,hls⟩:=h
   obtain ⟨ls',rfl,_,hls'⟩:=h'
   obtain ⟨bs,tl,hb,hway,rfl⟩:=hc
   obtain ⟨bs',tl',hb',hway',rfl⟩:=hc'
   have p1:=pth_pa hok hway.pth (z08 hok b).1
   have p2:=pth_pa hok hway'.pth (z08 hok b).1
   have mono:∀ {S T:Int→Prop} {x y:Int} {tl:List (Int × Int)},(∀ e,S e→T e)→Pa (eb ps) S x tl y→Pa (eb ps) T x tl y:=fun hs h=>by
    induction h with
    | nil=>exact .nil
    | cons h1 h2 _ ih=>exact .cons (hs _ h1) h2 ih
   have p1':=mono (T:=Fc cof c) (fun e he=>(hls c bs hb e).mp he) p1
   have p2':=mono (T:=Fc cof c) (fun e he=>(hls' c bs' hb' e).mp he) p2
   rw [Pa.unique (fo c) p1' p2' hway.nd hway'.nd]
end K28
namespace K28
open PySem L2 XM GM
def pfO:PSt→Int→Option (Option Int)
 | [],_=>none
 | (m,p)::t,b=>if m=b then some p else pfO t b
theorem pfO_val:∀ (st:PSt) (b:Int),valV (kvO st) (Sum.inl b)=(pfO st b).map fun o=>match o with | some c=>V.int c | none=>V.non
 | [],b=>rfl
 | (m,p)::t,b=>by
  show valV ((Sum.inl m,pvO p)::kvO t) (Sum.inl b)=_
  unfold pfO
  by_cases e:m=b
  ·subst e
   rw [q1d rfl,if_pos rfl]
   cases p <;> rfl
  ·rw [q1l (by intro q;exact e (Sum.inl.inj q)),if_neg e]
   exact pfO_val t b
theorem pfO_at:∀ {st:PSt},(st.map (·.1)).Nodup→∀ {j:Nat} {m:Int} {p:Option Int},st[j]?=some (m,p)→pfO st m=some p
 | (x,y)::t,nd,0,m,p,h=>by
  cases h
  unfold pfO
  rw [if_pos rfl]
 | (x,y)::t,nd,j+1,m,p,h=>by
  have h:t[j]?=some (m,p):=h
  have nd:=List.nodup_cons.mp nd
  unfold pfO
  rw [if_neg fun e=>nd.1 (List.mem_map.mpr ⟨(m,p),List.mem_of_getElem? h,e.symm⟩)]
  exact pfO_at nd.2 h
theorem rw_row {st:PSt} (nd:(st.map (·.1)).Nodup) {j:Nat} {row:List Int} (h:Rw st j row):Row (pfO st) row:=by
 induction h with
 | base e=>exact pfO_at nd e
 | step h1 _ _ _ ih=>exact ⟨pfO_at nd h1,ih⟩
theorem q85:∀ (row:List Int) (cof:Int→Option Nat) (c:Nat),q87 cof c row=shf cof c row
 | [],_,_=>rfl
 | b::r,cof,c=>by
  show q87 (fun x=>if x=b then some c else cof x) ((cof b).getD 0) r=shf (put1 cof b c) ((cof b).getD 0) r
  exact q85 r _ _
theorem q5n {cof:Int→Option Nat} {n:Nat} {bs:List Int} (hbs:∀ b,b∈bs↔(cof b).isSome=true) {c:Nat} {g:List Int} (h:(lists cof n bs)[c]?=some g) (b:Int):b∈g↔cof b=some c:=by
 have hc:c < n:=by
  have:=(List.getElem?_eq_some_iff.mp h).1
  unfold lists at this
  rwa [List.length_map,List.length_range] at this
 rw [q2a hc] at h
 cases h
 rw [List.mem_filter]
 constructor
 ·rintro ⟨_,e⟩
  simpa using e
 ·intro e
  exact ⟨(hbs b).mpr (by rw [e];rfl),by simp [e]⟩
theorem q1g (cof:Int→Option Nat) (n:Nat) (bs:List Int):(lists cof n bs).length=n:=by
 unfold lists
 rw [List.length_map,List.length_range]
theorem wi_lies {ps:PP} {i:Nat} {p:Int × Int} (h:ps[i]?=some p) (huds:List (List Int)):(huds.any fun g=>wi (eb ps) g (i:Int))=q6l p huds:=by
 have e:eb ps (i:Int)=p:=q2d (by rw [Int.toNat_natCast];exact h)
 unfold q6l wi
 rw [e]
theorem mem_endsL {ps:PP} {bs:List Int} (hb:∀ b∈bs,0≤b∧b < (ps.length:Int)) (z:Int):z∈q51 ps bs↔∃ b∈bs,z=(eb ps b).1∨z=(eb ps b).2:=by
 unfold q51
 rw [List.mem_flatMap]
 constructor
 ·rintro ⟨b,h1,h2⟩
  obtain ⟨h3,h4⟩:=hb b h1
  have hl:b.toNat < ps.length:=by omega
  have e:eb ps b=ps[b.toNat]:=q2d (List.getElem?_eq_getElem hl)
  rw [List.getElem?_eq_getElem hl] at h2
  refine ⟨b,h1,?_⟩
  rw [e]
  simpa using h2
 ·rintro ⟨b,h1,h2⟩
  obtain ⟨h3,h4⟩:=hb b h1
  have hl:b.toNat < ps.length:=by omega
  have e:eb ps b=ps[b.toNat]:=q2d (List.getElem?_eq_getElem hl)
  refine ⟨b,h1,?_⟩
  rw [List.getElem?_eq_getElem hl]
  rw [e] at h2
  simpa using h2
theorem mem_joinedL {nss:List (List Int)} {qs:List Int} {x:Int}:x∈q1e nss qs↔∃ g∈nss,mts g qs=true∧x∈g:=by
 unfold q1e
 rw [List.mem_flatten]
 constructor
 ·rintro ⟨g,hg,hx⟩
  obtain ⟨h1,h2⟩:=List.mem_filter.mp hg
  exact ⟨g,h1,h2,hx⟩
 ·rintro ⟨g,h1,h2,hx⟩
  exact ⟨g,List.mem_filter.mpr ⟨h1,h2⟩,hx⟩
theorem q9t:∀ {nss:List (List Int)},(∀ g∈nss,2≤g.length)→2*nss.length≤nss.flatten.length
 | [],_=>by simp
 | g::t,h=>by
  have h1:=h g (by simp)
  have h2:=q9t (nss:=t) fun x hx=>h x (List.mem_cons_of_mem _ hx)
  rw [List.flatten_cons,List.length_append,List.length_cons]
  omega
theorem q2l {l:List Int} {q:Int} (nd:l.Nodup) (h:∀ x∈l,0≤x∧x < q):l.length≤q.toNat:=by
 have:=q1c l (upto q) nd fun y hy=>mem_upto.mpr (h y hy)
 rw [q7c] at this
 exact this
theorem q5v {ps:PP} {q:Int} (hok:∀ p∈ps,q0z q p=true) (b:Int) (h0:0≤b) (h1:b < (ps.length:Int)):(0≤(eb ps b).1∧(eb ps b).1 < q)∧(0≤(eb ps b).2∧(eb ps b).2 < q)∧(eb ps b).1≠(eb ps b).2:=by
 have hl:b.toNat < ps.length:=by omega
 have e:eb ps b=ps[b.toNat]:=q2d (List.getElem?_eq_getElem hl)
 have:=hok _ (List.getElem_mem hl)
 unfold q0z at this
 simp only [Bool.and_eq_true,decide_eq_true_eq] at this
 rw [e]
 exact ⟨this.1,this.2.1,by simpa using this.2.2⟩
theorem deal_di {ps:PP} {q:Int} {n i:Nat} (hok:∀ p∈ps,q0z q p=true) {cof:Int→Option Nat} {huds:List (List Int)} (h:DealR (eb ps) n (WP ps q n) i cof huds) (hi:i≤ps.length):DI (eb ps) n q i cof huds:=
 DealR.di (N:=ps.length) (q5v hok) (fun cof W hw fo _=>wp_ok hok hw fo) h hi
theorem q40:∀ {nss:List (List Int)},nss.flatten.Nodup→(∀ g∈nss,g≠[])→nss.Nodup
 | [],_,_=>by simp
 | g::t,h,hne=>by
  rw [List.flatten_cons] at h
  obtain ⟨_,h2,h3⟩:=List.nodup_append.mp h
  refine List.nodup_cons.mpr ⟨fun hm=>?_,q40 h2 fun x hx=>hne x (List.mem_cons_of_mem _ hx)⟩
  obtain ⟨x,hx⟩:=List.exists_mem_of_ne_nil g (hne g (by simp))
  exact h3 x hx x (List.mem_flatten.mpr ⟨g,hm,hx⟩) rfl
theorem q7g:∀ {nss:List (List Int)},nss.flatten.Nodup→(∀ g∈nss,g≠[])→(nss.Pairwise fun a b=>lexI a b=true)→(nss.map (·.headD 0)).Pairwise (· < ·)
 | [],_,_,_=>by simp
 | g::t,h,hne,hp=>by
  rw [List.flatten_cons] at h
  obtain ⟨_,h2,h3⟩:=List.nodup_append.mp h
  obtain ⟨p1,p2⟩:=List.pairwise_cons.mp hp
  rw [List.map_cons]
  refine List.pairwise_cons.mpr ⟨fun y hy=>?_,q7g h2 (fun x hx=>hne x (List.mem_cons_of_mem _ hx)) p2⟩
  obtain ⟨b,hb,rfl⟩:=List.mem_map.mp hy
  have hl:=p1 b hb
  have hg:=hne g (by simp)
  have hbn:=hne b (List.mem_cons_of_mem _ hb)
  cases g with
  | nil=>exact absurd rfl hg
  | cons x xs=>
   cases b with
   | nil=>exact absurd rfl hbn
   | cons y ys=>
    have hxy:x≠y:=fun e=>h3 x (by simp) y (List.mem_flatten.mpr ⟨_,hb,by simp⟩) e
    unfold lexI at hl
    rw [if_neg hxy] at hl
    exact of_decide_eq_true hl
structure Cal (P:Program) (w:World) (K:W.Frag) (mg:Str→Option Value) (base:Heap) (lv:Nat) (nm:Str) (f:Addr) (fd:FuncData) (ns:List Str) (sp:Sp):Prop where
 ok:FnOk P w K mg base CX0 lv f fd ns sp
 bi:Binds K fd ns []
 nm:mg nm=some (.ref f)
 kp:W.keepIn K (.ref f)=true
def KL (H H':Hp):Prop:=∀ x vs,H x=some (.lst vs)→H' x=some (.lst vs)
theorem KL.of {H H':Hp} (s:Same H H'):KL H H':=fun x vs e=>s _ _ e
theorem KL.tr {H H' H'':Hp} (s:KL H H') (s':KL H' H''):KL H H'':=fun x vs e=>s' _ _ (s _ _ e)
def q3m (ads:List (Addr × List Addr)):List Addr:=ads.flatMap fun p=>p.1::p.2
def Ads (H:Hp) (ads:List (Addr × List Addr)) (shown:List (List (List Int))):Prop:=All2 (fun (p:Addr × List Addr) huds=>H p.1=some (.lst (p.2.map V.ref))∧All2 (fun b g=>LI H b g) p.2 huds) ads shown
theorem Ads.keep {H H':Hp} {ads:List (Addr × List Addr)} {shown:List (List (List Int))} (s:KL H H') (h:Ads H ads shown):Ads H' ads shown:=All2.imp (fun _ _ ⟨h1,h2⟩=>⟨s _ _ h1,All2.imp (fun _ _ e=>s _ _ e) h2⟩) h
theorem Ads.some {H:Hp} {ads:List (Addr × List Addr)} {shown:List (List (List Int))} (h:Ads H ads shown) {b:Addr} (hb:b∈q3m ads):∃ vs,H b=some (.lst vs):=by
 obtain ⟨p,hp,hbp⟩:=List.mem_flatMap.mp hb
 obtain ⟨j,hj⟩:=List.mem_iff_getElem?.mp hp
 obtain ⟨g,_,h1,h2⟩:=h.get hj
 rcases List.mem_cons.mp hbp with rfl | hbp
 ·exact ⟨_,h1⟩
 ·obtain ⟨k,hk⟩:=List.mem_iff_getElem?.mp hbp
  obtain ⟨_,_,e⟩:=h2.get hk
  exact ⟨_,e⟩
def offS (sh lh:Addr) (zs:List V):Prop:=lh≠sh∧∀ z∈zs,z≠V.ref sh
theorem q7p {ps:PP} {q:Int} {n:Nat} {ds:List Int} (hok:∀ p∈ps,q0z q p=true) {cof:Int→Option Nat} {huds:List (List Int)} (h:DealL (eb ps) n (WP ps q n) ds cof huds) (nd:ds.Nodup) (hN:∀ b∈ds,0≤b∧b < (ps.length:Int)):DJ (eb ps) n q ds cof huds:=
 DealL.dj (N:=ps.length) (q5v hok) (fun cof W hw fo _=>wp_ok hok hw fo) h nd hN
theorem deal_fn {ps:PP} {q:Int} {n:Nat} {ds:List Int} (hok:∀ p∈ps,q0z q p=true) {cof cof':Int→Option Nat} {huds huds':List (List Int)} (h:DealL (eb ps) n (WP ps q n) ds cof huds) (h':DealL (eb ps) n (WP ps q n) ds cof' huds') (nd:ds.Nodup) (hN:∀ b∈ds,0≤b∧b < (ps.length:Int)):cof=cof'∧huds=huds':=
 DealL.fn (N:=ps.length) (q5v hok) (fun cof W hw fo _=>wp_ok hok hw fo) (fun cof W W' h1 h2 fo c b o o' k1 k2=>wp_fn hok h1 h2 fo k1 k2) h h' rfl nd hN
theorem All2.mem_imp {α β:Type} {R S:α→β→Prop}:∀ {xs:List α} {ys:List β},(∀ x y,x∈xs→R x y→S x y)→All2 R xs ys→All2 S xs ys
 | _,_,h,.nil=>.nil
 | _,_,h,.cons r t=>.cons (h _ _ List.mem_cons_self r) (All2.mem_imp (fun x y hx=>h x y (List.mem_cons_of_mem _ hx)) t)
theorem q8e {α β γ:Type} {R:α→γ→Prop} {S:β→γ→Prop} {f:α→β} (h:∀ x y,R x y→S (f x) y):∀ {xs:List α} {ys:List γ},All2 R xs ys→All2 S (xs.map f) ys
 | _,_,.nil=>.nil
 | _,_,.cons r t=>.cons (h _ _ r) (q8e h t)
theorem deal_rl {E:Int→Int × Int} {n N:Nat} {WP:(Int→Option Nat)→WR→Prop} {cof:Int→Option Nat} {huds:List (List Int)} (h:DealL E n WP (allB N) cof huds):DealR E n WP N cof huds:=DealL.rl h N rfl
theorem q9c (rws:List (List Int)) (j:Nat):∃ es,rws.flatten=(rws.take j).flatten++es:=⟨(rws.drop j).flatten,by rw [← List.flatten_append,List.take_append_drop]⟩
section
variable {P:Program} {w:World} {K:W.Frag} {mg:Str→Option Value} {base:Heap} {CE CS CQ CT:Addr}
inductive spRowsI (CT:Addr) (vs:List V) (H:Hp) (Q:VK) (E:XK):Prop
 | mk (p l2 lr:Addr) (q:Int) (ys xr:List V) (ps:PP) (cr:Nat) (rws:List (List Int)):(vs=[.ref p,.int (cr:Int),.ref lr])→(TownAt CT H p l2 q ys)→(PV H ys ps)→(fits q ps=true)→(cr≤100)→(H lr=some (.lst xr))→(LS H xr rws)→(rws.flatten.Nodup)→((∀ b∈rws.flatten,0≤b∧b < (ps.length:Int)))→(rws.length≤60)→(∀ (Hm H':Hp) (t l sh:Addr) (as:List Addr) (ads:List (Addr × List Addr)) (shown:List (List (List Int))) (bs:List Int) (cof:Int→Option Nat) (huds:List (List Int)),Same H Hm→Hm sh=some (.lst (ads.map fun p=>V.ref p.1))→Ads Hm ads shown→(q3m ads).Nodup→(∀ b∈q3m ads,H b=none)→H sh=none→sh ∉ q3m ads→shown.length=rws.length→(∀ k sk,shown[k]?=some sk→∃ cof',DealL (eb ps) cr (WP ps q cr) (rws.take (k+1)).flatten cof' sk)→LM Hm H' l as (lists cof cr bs)→Hm l=none→H' t=some (.tup [.ref l,.ref sh])→DealL (eb ps) cr (WP ps q cr) rws.flatten cof huds→(∀ b,b∈bs↔(cof b).isSome=true)→bs.Pairwise (·≤·)→bs.Nodup→Q (.ref t) H')→spRowsI CT vs H Q E
def spRows (CT:Addr):Sp:=fun vs H Q E=>spRowsI CT vs H Q E
theorem scRows:FnScope ["town", "crews", "rows", "crew_of", "huddles", "shown", "row", "bridge", "found"] ["town", "crews", "rows"] (q03 z02):=⟨rfl,rfl,rfl,by decide +kernel,rfl,by decide +kernel,by decide +kernel⟩
theorem ok_rows {f fL fR fD fW fE fM:Addr} {fd dL dR dD dW dE dM:FuncData} (T:Txt K mg CE CS CQ CT) (F:Fun K "deal_by_rows" "deal_by_rows" z02 f fd)
  (GL:Cal P w K mg base 1 "lies_within" fL dL ["ends", "huddles"] spLies)
  (GR:Cal P w K mg base 3 "room_for" fR dR ["town", "dealing", "first"] (q8f CT))
  (GD:Cal P w K mg base 1 "dealing_of" fD dD ["crew_of", "crews"] z1s)
  (GW:Cal P w K mg base 1 "with_huddle" fW dW ["huddles", "quarters"] q8d)
  (GE:Cal P w K mg base 2 "ends_of" fE dE ["town", "bridges"] (z1j CT))
  (GM:Cal P w K mg base 1 "make_room" fM dM ["crew_of", "end", "pushed_by"] q6f) :
  FnOk P w K mg base CX0 4 f fd ["town", "crews", "rows"] (spRows CT):=by
 refine F.ok scRows (fun vs H Q E h=>?_) (fun cdv A outer s H vs Q E hr h=>?_)
 ·obtain ⟨p,l2,lr,q,ys,xr,ps,cr,rws,rfl,_⟩:=h
  rfl
 ·obtain ⟨p,l2,lr,q,ys,xr,ps,cr,rws,rfl,ht,hp,hft,hcr,hlr,hxr,rnd,rN,hrl,kQ⟩:=h
  have hu:=hu_of hr
  have hr1:=hr.mono (show 1≤3 by omega)
  have hr2:=hr.mono (show 2≤3 by omega)
  have nd0:((["huddle"]:List Str)++([]:List Str)).Nodup:=by decide +kernel
  refine ⟨_,q02 (q0a (i:=3) scRows.nd rfl (Or.inl rfl) pe_dnewK)
   (q02 (q0a (i:=4) scRows.nd rfl (Or.inl rfl) (q1q q04))
   (q02 (q0a (i:=5) scRows.nd rfl (Or.inl rfl) (q1q q04))
   (q02 (q21 PassesOwn.never rfl (q19 (pv 2)) (q0k (i:=6) scRows.nd rfl (Or.inl rfl))
    (q02 (q3r (q21 PassesOwn.never rfl (q19 (pv 6)) (q0k (i:=7) scRows.nd rfl (Or.inl rfl))
     (q06 (q11 (q32 (q1t (q0h GL.ok hr1 (by rfl) GL.nm GL.kp GL.bi .nil q1a (q00 (q0n q0g (q3q (pv 0) rfl) (pv 7) (fun _ _=>rfl)) (q00 (pv 4) q04)))))
      (q02 (q0a (i:=8) scRows.nd rfl (Or.inl rfl) (q0h GR.ok hr (by rfl) GR.nm GR.kp GR.bi .nil q1a (q00 (pv 0) (q00 (q0h GD.ok hr1 (by rfl) GD.nm GD.kp GD.bi .nil q1a (q00 (pv 3) (q00 (pv 1) q04))) (q00 (pv 7) q04)))))
      (q06 (q11 (q4m (z19 (q0n q18 (pv 8) q07 (fun _ _=>rfl))))
       (q06 (q0a (i:=4) scRows.nd rfl (Or.inl rfl) (q0h GW.ok hr1 (by rfl) GW.nm GW.kp GW.bi .nil q1a (q00 (pv 4) (q00 (q0h GE.ok hr2 (by rfl) GE.nm GE.kp GE.bi .nil q1a (q00 (pv 0) (q00 (q1h (call_listD rfl) (by rfl) T.list q39 (q00 (q0n q18 (pv 8) q07 (fun _ _=>rfl)) q04)) q04))) q04)))))
       (q06 (q0q (q0h GM.ok hr1 (by rfl) GM.nm GM.kp GM.bi .nil q1a (q00 (pv 3) (q00 (q0n q18 (pv 8) q07 (fun _ _=>rfl)) (q00 (q0n q18 (pv 8) q07 (fun _ _=>rfl)) q04)))))))))
      q0f))))
    (q06 (q0q (q3n PySem.F.plainAttrs_list PySem.F.slot_list_append PySem.F.type_list_append q15 (pv 5) (q00 (q30 (own:=["huddle"]) (caps:=[]) (cs:=[]) (sc:=q03 z02) ⟨rfl,rfl,by decide +kernel,by decide +kernel,by decide +kernel,by decide +kernel,rfl⟩ rfl
     (q19 (pv 4)) (fun _ _ _ _ _=>q0k (i:=0) nd0 rfl (Or.inl rfl) (.inr rfl)) (fun _ _ _ _ _=>q3c) (fun _ _ _ _ _=>q1h q5d (by rfl) T.list q39 (q00 (pv 0) q04))) q04))))))
   (q06 (q0i (q1u (q00 (q0h GD.ok hr1 (by rfl) GD.nm GD.kp GD.bi .nil q1a (q00 (pv 3) (q00 (pv 1) q04))) (q00 (pv 5) q04)))))))),?_⟩
  try dsimp only [cx_of,cx_nox,cx_comp]
  obtain ⟨⟨hq1,hq2⟩,h60,hok⟩:=q1z hft
  have hlen:=hp.length
  have htl2:=ht.2
  obtain ⟨dx,htp⟩:=ht.1
  intro a ha
  have s0:Same H (upd H a (.dK [])):=Same.rfl'.new ha
  refine ⟨by show 0≤sizeLine;decide,fun lh0 hlh0=>?_⟩
  have s1:Same (upd H a (.dK [])) (upd (upd H a (.dK [])) lh0 (.lst [])):=Same.rfl'.new hlh0
  have nal:a≠lh0:=q05 q01 hlh0
  refine ⟨by show 0≤sizeLine;decide,fun sh hsh=>?_⟩
  have s1':Same (upd (upd H a (.dK [])) lh0 (.lst [])) (upd (upd (upd H a (.dK [])) lh0 (.lst [])) sh (.lst [])):=Same.rfl'.new hsh
  have fsh:H sh=none:=s0.free (s1.free hsh)
  have nas:a≠sh:=q05 (s1 _ _ q01) hsh
  have nls:lh0≠sh:=q05 q01 hsh
  refine ⟨_,rfl,lr,rfl,⟨_,SqL.of ((s0.tr (s1.tr s1')) _ _ hlr)⟩,?_⟩
  refine q1x (K:=K) (a:=lr) (xs:=xr) (fun j σ H2=>Same H H2∧∃ (ks:List Int) (cof:Int→Option Nat) (huds:List (List Int)) (lh:Addr) (zs:List V) (ads:List (Addr × List Addr)) (shown:List (List (List Int))) (u2 u3 u4:Option V),CrewAt H2 a ks cof∧ks.Nodup∧H2 lh=some (.lst zs)∧LS H2 zs huds∧offS sh lh zs∧H2 sh=some (.lst (ads.map fun p=>V.ref p.1))∧Ads H2 ads shown∧(q3m ads).Nodup∧(∀ b∈q3m ads,H b=none)∧sh ∉ q3m ads∧shown.length=j∧(∀ k sk,shown[k]?=some sk→∃ cof',DealL (eb ps) cr (WP ps q cr) (rws.take (k+1)).flatten cof' sk)∧DealL (eb ps) cr (WP ps q cr) (rws.take j).flatten cof huds∧σ=[some (.ref p),some (.int (cr:Int)),some (.ref lr),some (.ref a),some (.ref lh),some (.ref sh),u2,u3,u4])
   ⟨s0.tr (s1.tr s1'),[],fun _=>none,[],lh0,[],[],[],none,none,none,⟨[],by rw [q08 nas,q08 nal];exact q01,rfl,fun _=>rfl⟩,by simp,by rw [q08 nls];exact q01,.nil,⟨nls,fun z hz=>(by cases hz)⟩,q01,.nil,by simp [q3m],fun b hb=>(by cases hb),fun hb=>(by cases hb),rfl,fun k sk e=>(by cases e),.start,rfl⟩ (fun j σ H2 _ ⟨s2,_⟩=>SqL.of (s2 _ _ hlr)) ?_ ?_
  ·rintro j rv σ H2 hj ⟨s20,ks0,cof0,huds0,lh00,zs0,ads,shown,u2,u3,u4,hca0,hnd0,hlh00,hls0,hof0,hsh0,hads0,hfn,hff,hsn,hshl,hsk,hdr0,rfl⟩
   obtain ⟨row,hrow0,r0,rfl,hr0⟩:=hxr.get hj
   have hjl:j < rws.length:=(List.getElem?_eq_some_iff.mp hrow0).1
   have etk:(rws.take (j+1)).flatten=(rws.take j).flatten++row:=by rw [q0m hrow0,List.flatten_append];simp
   have tnd:∀ k,((rws.take k).flatten).Nodup:=fun k=>by
    obtain ⟨es,e⟩:=q9c rws k
    rw [e] at rnd
    exact (List.nodup_append.mp rnd).1
   have tN:∀ k,∀ b∈(rws.take k).flatten,0≤b∧b < (ps.length:Int):=fun k b hb=>by
    obtain ⟨es,e⟩:=q9c rws k
    exact rN b (by rw [e];exact List.mem_append_left _ hb)
   have pnd:∀ i,((rws.take j).flatten++row.take i).Nodup:=fun i=>by
    have:=tnd (j+1)
    rw [etk] at this
    exact this.sublist ((List.Sublist.refl _).append (List.take_sublist _ _))
   have pN:∀ i,∀ b∈(rws.take j).flatten++row.take i,0≤b∧b < (ps.length:Int):=fun i b hb=>tN (j+1) b (by
    rw [etk]
    exact ((List.Sublist.refl _).append (List.take_sublist _ _)).subset hb)
   refine ⟨fun σ' H'=>∃ (ks:List Int) (cof:Int→Option Nat) (huds:List (List Int)) (lh:Addr) (zs:List V) (u1 u2:Option V),Same H H'∧KL H2 H'∧CrewAt H' a ks cof∧ks.Nodup∧H' lh=some (.lst zs)∧LS H' zs huds∧offS sh lh zs∧DealL (eb ps) cr (WP ps q cr) (rws.take (j+1)).flatten cof huds∧σ'=[some (.ref p),some (.int (cr:Int)),some (.ref lr),some (.ref a),some (.ref lh),some (.ref sh),some (.ref r0),u1,u2],?_,?_⟩
   rotate_left
   ·refine ⟨_,rfl,r0,rfl,⟨_,SqL.of (s20 _ _ hr0)⟩,?_⟩
    refine q1x (K:=K) (a:=r0) (xs:=row.map V.int) (fun i σ H'=>∃ (ks:List Int) (cof:Int→Option Nat) (huds:List (List Int)) (lh:Addr) (zs:List V) (u1 u2:Option V),Same H H'∧KL H2 H'∧CrewAt H' a ks cof∧ks.Nodup∧H' lh=some (.lst zs)∧LS H' zs huds∧offS sh lh zs∧DealL (eb ps) cr (WP ps q cr) ((rws.take j).flatten++row.take i) cof huds∧σ=[some (.ref p),some (.int (cr:Int)),some (.ref lr),some (.ref a),some (.ref lh),some (.ref sh),some (.ref r0),u1,u2])
     ⟨ks0,cof0,huds0,lh00,zs0,_,_,s20,fun _ _ e=>e,hca0,hnd0,hlh00,hls0,hof0,by rw [List.take_zero,List.append_nil];exact hdr0,rfl⟩ (fun i σ H2 _ ⟨_,_,_,_,_,_,_,s2,_⟩=>SqL.of (s2 _ _ hr0)) ?_ ?_
    ·rintro i yv σ H2 hi0 ⟨ks,cof,huds,lh,zs,u1,u2,s2,kl2,hca,hnd,hlh,hls,hof,hdr,rfl⟩
     rw [List.getElem?_map] at hi0
     obtain ⟨bI,hbI,rfl⟩:=Option.map_eq_some_iff.mp hi0
     have hbr:=pN (i+1) bI (by rw [q0m hbI,← List.append_assoc];exact List.mem_append_right _ (List.mem_singleton.mpr rfl))
     obtain ⟨i',rfl⟩:∃ i':Nat,bI=(i':Int):=⟨bI.toNat,by omega⟩
     have hin:i' < ps.length:=by omega
     have nx:∀ {c' h'},DealL (eb ps) cr (WP ps q cr) ((rws.take j).flatten++row.take i++[(i':Int)]) c' h'→DealL (eb ps) cr (WP ps q cr) ((rws.take j).flatten++row.take (i+1)) c' h':=fun h=>by
      rw [q0m hbI,← List.append_assoc]
      exact h
     obtain ⟨yv,hyv⟩:∃ yv,ys[i']?=some yv:=⟨_,List.getElem?_eq_getElem (by omega)⟩
     have hi:=hyv
     obtain ⟨pr,hpr,ta,rfl,hta⟩:=hp.get hi
     have hil:i' < ps.length:=(List.getElem?_eq_some_iff.mp hpr).1
     have D:=q7p hok hdr (pnd i) (pN i)
     have hkk:=hca.key
     have hflat:huds.flatten.length≤24:=by
      have:=q2l (q:=q) D.nd fun x hx=>by
       obtain ⟨g,hg,hxg⟩:=List.mem_flatten.mp hx
       exact D.qr g hg x hxg
      omega
     have hhl:2*huds.length≤huds.flatten.length:=q9t D.two
     have hkl:ks.length≤60:=by
      have:=q2l (q:=(ps.length:Int)) hnd fun x hx=>by
       obtain ⟨k,hk⟩:=Option.isSome_iff_exists.mp ((hkk x).mp hx)
       exact pN i x (D.rng x k hk)
      omega
     have s3:Same H2 H2:=Same.rfl'
     have s23:=s2.tr s3
     have CA3:CrewAt H2 a ks cof:=hca
     have hwl:=wi_lies hpr huds
     refine ⟨_,rfl,p,CT,dx,_,_,rfl,s2 _ _ htp,T.cl,T.nb,q5m _ _,_,rfl,l2,_,_,V.ref ta,rfl,rfl,SqL.of (s2 _ _ htl2),q09 hyv,_,rfl,ta,lh,pr,zs,huds,rfl,s23 _ _ hta,s3 _ _ hlh,hls.same s3,by omega,fun H4 s4=>⟨_,rfl,?_⟩⟩
     have CA4:CrewAt H4 a ks cof:=let ⟨kvs,h1,h2⟩:=CA3;⟨kvs,s4 _ _ h1,h2⟩
     have s24:=s23.tr s4
     cases hlies:q6l pr huds with
     | true=>
      refine iteF ⟨ks,cof,huds,lh,zs,_,_,s24,kl2.tr (KL.of (s3.tr s4)),CA4,hnd,s4 _ _ (s3 _ _ hlh),hls.same (s3.tr s4),hof,nx (.skip hdr (by rw [hwl,hlies])),rfl⟩
     | false=>
      refine iteT ⟨_,rfl,_,rfl,_,rfl,a,ks,cof,cr,rfl,CA4,hkl,fun b hb=>?_,hcr,fun H5 l as bs M5 hl5 hbp hbsorted=>?_⟩
      ·obtain ⟨k,hk⟩:=Option.isSome_iff_exists.mp ((hkk b).mp hb)
       exact ⟨k,hk,D.lt b k hk⟩
      have hbs:∀ b,b∈bs↔(cof b).isSome=true:=fun b=>(hbp.mem_iff).trans (hkk b)
      have s25:=s24.tr M5.same
      have hrng:∀ b k,cof b=some k→0≤b∧b < (ps.length:Int):=fun b k hk=>pN i b (D.rng b k hk)
      have hgs:∀ g∈lists cof cr bs,g.length≤100∧∀ b∈g,0≤b∧b < (ps.length:Int):=fun g hg=>by
       obtain ⟨c,hc⟩:=List.mem_iff_getElem?.mp hg
       have hm:=q5n hbs hc
       refine ⟨?_,fun b hb=>hrng b c ((hm b).mp hb)⟩
       have hcl:c < cr:=by
        have:=(List.getElem?_eq_some_iff.mp hc).1
        rwa [q1g] at this
       rw [q2a hcl] at hc
       cases hc
       have h1:=List.length_filter_le (fun b=>cof b == some c) bs
       have h2:=hbp.length_eq
       omega
      have hwp:WP ps q cr cof (WayR ps q (lists cof cr bs)):=⟨_,rfl,q1g _ _ _,fun c g hc=>q5n hbs hc⟩
      have hno:(huds.any fun g=>wi (eb ps) g (i':Int))=false:=by rw [hwl,hlies]
      have hWok:=wp_ok hok hwp D.fo
      refine ⟨_,rfl,p,l2,q,ys,ps,l,as,lists cof cr bs,(i':Int),rfl,ht.same s25,hp.same s25,hft,M5.hl,M5.len,M5.ls,hgs,⟨by omega,by omega⟩,fun H6 t6 d6 st s6 hd6 ht6 hdd6 O6 R6=>?_,fun H6 t6 t7 d6 st b c s6 hd6 ht6 ht7 hdd6 O6 R6=>?_⟩
      ·rw [q1g] at R6
       have s26:=s25.tr s6
       refine ⟨_,rfl,t6,_,_,_,rfl,rfl,SqT.of ht6,q09 (j:=0) rfl,_,rfl,?_⟩
       refine iteT ⟨_,rfl,_,rfl,_,rfl,t6,_,_,_,rfl,rfl,SqT.of ht6,q09 (j:=1) rfl,d6,_,st.map (·.1),rfl,hdd6,by unfold kvO;rw [List.map_map,List.map_map];rfl,by have:=O6.len;rw [List.length_map];omega,fun d7 hd7=>?_⟩
       have s7:Same H6 (upd H6 d7 (.lst ((st.map (·.1)).map V.int))):=Same.rfl'.new hd7
       have hst60:(st.map (·.1)).length≤60:=by have:=O6.len;rw [List.length_map];omega
       refine ⟨p,l2,d7,q,ys,ps,st.map (·.1),rfl,ht.same (s26.tr s7),hp.same (s26.tr s7),q01,hst60,O6.rng,fun d8 H8 s8 hd8 hl8=>?_⟩
       have s28:=(s26.tr s7).tr s8
       have s38:Same H2 H8:=((((s3.tr s4).tr M5.same).tr s6).tr s7).tr s8
       have hqs:=mem_endsL (ps:=ps) O6.rng
       have hel:=q8l ps (st.map (·.1))
       have hdl:(q0j (q51 ps (st.map (·.1))++q1e huds (q51 ps (st.map (·.1))))).length < 64:=by
        have:=q2l (q:=q) (q1f (q51 ps (st.map (·.1))++q1e huds (q51 ps (st.map (·.1))))) fun x hx=>by
         rcases List.mem_append.mp (mem_distinct.mp hx) with hx | hx
         ·obtain ⟨b,hb,h⟩:=(hqs x).mp hx
          obtain ⟨r0,r1⟩:=O6.rng b hb
          obtain ⟨e1,e2,_⟩:=q5v hok b r0 r1
          rcases h with h | h <;> rw [h]
          ·exact e1
          ·exact e2
         ·obtain ⟨g,hg,_,hxg⟩:=mem_joinedL.mp hx
          exact D.qr g hg x hxg
        omega
       refine ⟨lh,d8,zs,huds,_,rfl,s38 _ _ hlh,hls.same s38,hl8,by omega,by omega,by omega,hdl,fun H9 l9 zs9 mss m s9 hl9 hlz9 hls9 hperm hmp hms hz9 hn9 ho9=>?_⟩
       refine ⟨ks,cof,mss,l9,zs9,_,_,s28.tr s9,kl2.tr (KL.of (s38.tr s9)),?_,hnd,hlz9,hls9,⟨Ne.symm (q05 (s38 _ _ (kl2 _ _ hsh0)) hl9),fun z hz=>by
        rcases hz9 z hz with h | ⟨az,rfl,hn⟩
        ·exact hof.2 z h
        ·intro e
         cases e
         rw [s38 _ _ (kl2 _ _ hsh0)] at hn
         cases hn⟩,nx (.hud hdr hno hwp R6 hqs ⟨hperm,?_,hms,fun x=>?_,fun hfl hne=>q7g hfl hne (ho9 ((hperm.nodup_iff).mp (q40 hfl hne)))⟩),rfl⟩
       ·obtain ⟨kvs,h1,h2⟩:=hca
        exact ⟨kvs,(s38.tr s9) _ _ h1,h2⟩
       ·exact (hmp.nodup_iff).mpr (q1f _)
       ·rw [hmp.mem_iff,mem_distinct,List.mem_append,mem_joinedL]
      ·rw [q1g] at R6
       have s26:=s25.tr s6
       have s36:Same H2 H6:=((s3.tr s4).tr M5.same).tr s6
       obtain ⟨pl,pp,RR,hpl,hc,hw⟩:=(RI.room R6 (b0:=(i':Int)) RI.init).2 b c rfl
       obtain ⟨r,hrw⟩:=RR.row pl b pp hpl
       have hrow:=rw_row RR.nd hrw
       have hrnd:=hrw.nd RR.nd
       have CA6:CrewAt H6 a ks cof:=let ⟨kvs,h1,h2⟩:=hca;⟨kvs,s36 _ _ h1,h2⟩
       have nad:a≠d6:=fun e=>by
        obtain ⟨kvs,h1,_⟩:=hca
        have:=((s3.tr s4).tr M5.same) _ _ h1
        rw [e,hd6] at this
        cases this
       have hdrop:∀ x∈(b::r).dropLast,(cof x).isSome=true:=fun x hx=>by
        have hxm:x∈b::r:=List.dropLast_subset _ hx
        obtain ⟨j,pj,_,hj⟩:=hrw.ix x hxm
        cases pj with
        | some b'=>
         obtain ⟨_,_,c',ms,_,_,_,_,hw',hm⟩:=RR.par j x b' hj
         have:=((hWok.some c' b' ms hw').1 x hm).1
         unfold Fc at this
         rw [this]
         rfl
        | none=>
         exfalso
         have e:=RR.non j x hj
         subst e
         have hlast:=hrw.last (b::r).dropLast ((b::r).getLast (by simp)) (List.dropLast_concat_getLast _).symm
         rw [hj] at hlast
         have e2:x=(b::r).getLast (by simp):=by cases hlast;rfl
         have nd2:((b::r).dropLast++[(b::r).getLast (by simp)]).Nodup:=by rw [List.dropLast_concat_getLast];exact hrnd
         exact (List.nodup_append.mp nd2).2.2 x hx _ (by simp) e2
       refine ⟨_,rfl,t6,_,_,_,rfl,rfl,SqT.of ht6,q09 (j:=0) rfl,_,rfl,?_⟩
       refine iteF ⟨_,rfl,_,rfl,t6,_,_,_,rfl,rfl,SqT.of ht6,q09 (j:=0) rfl,_,rfl,t6,_,_,_,rfl,rfl,SqT.of ht6,q09 (j:=1) rfl,?_⟩
       refine ⟨a,t7,d6,ks,st.map (·.1),cof,pfO st,b,r,c,rfl,nad,CA6,ht7,⟨kvO st,hdd6,by unfold kvO;rw [List.map_map,List.map_map];rfl,pfO_val st⟩,hrow,hrnd,hdrop,by omega,hnd,fun H7 ks' CA7 hkeep hkl' hnd'=>?_⟩
       have nla:∀ {x:Addr} {vs:List V},H6 x=some (.lst vs)→x≠a:=fun hx e=>by
        obtain ⟨kvs,h1,_⟩:=CA6
        rw [e,h1] at hx
        cases hx
       have hs7:Same H H7:=fun x o e=>hkeep x o (fun q=>by rw [q,ha] at e;cases e) (s26 _ _ e)
       refine ⟨ks',shf cof c (b::r),huds,lh,zs,_,_,hs7,fun x vs e=>hkeep _ _ (nla (s36 _ _ (kl2 _ _ e))) (s36 _ _ (kl2 _ _ e)),by rw [← q85];exact CA7,hnd',hkeep _ _ (nla (s36 _ _ hlh)) (s36 _ _ hlh),?_,hof,nx (.room hdr hno hwp R6 RR hpl hc hw hrw),rfl⟩
       exact All2.imp (fun _ _ ⟨y,e,q⟩=>⟨y,e,hkeep _ _ (nla (s36 _ _ q)) (s36 _ _ q)⟩) hls
    ·rintro σ H2 ⟨ks,cof,huds,lh,zs,u1,u2,s2,kl2,hca,hnd,hlh,hls,hof,hdr,rfl⟩
     rw [List.length_map,List.take_length,← etk] at hdr
     exact ⟨ks,cof,huds,lh,zs,u1,u2,s2,kl2,hca,hnd,hlh,hls,hof,hdr,rfl⟩
   rintro σ3 H3 ⟨ks,cof,huds,lh,zs,u1,u2,s3,kl3,hca,hnd,hlh,hls,hof,hdr,rfl⟩
   have hzl:=hls.length
   have hsl:=kl3 _ _ hsh0
   have hads3:=hads0.keep kl3
   have D:=q7p hok hdr (tnd (j+1)) (tN (j+1))
   have hflat:huds.flatten.length≤24:=by
    have:=q2l (q:=q) D.nd fun x hx=>by
     obtain ⟨g,hg,hxg⟩:=List.mem_flatten.mp hx
     exact D.qr g hg x hxg
    omega
   have hhl:2*huds.length≤huds.flatten.length:=q9t D.two
   refine ⟨_,rfl,.inl ⟨rfl,_,SqL.of hsl⟩,_,rfl,lh,rfl,⟨_,SqL.of hlh⟩,fun kk hkk=>?_⟩
   refine q4c (n:=huds.length) (fun i vs H=>Same H3 H∧H kk=some (.lst vs)∧∃ bl:List Addr,vs=bl.map V.ref∧All2 (fun b g=>LI H b g∧b≠kk∧H3 b=none) bl (huds.take i)∧bl.Nodup) ⟨Same.rfl'.new hkk,q01,[],rfl,.nil,by simp⟩ (fun i vs H4 hi hv=>?_) (fun i vs H4 hi hv=>?_) (fun vs H4 hv=>?_)
   ·obtain ⟨_,_,bl,rfl,hA,_⟩:=hv
    have:=hA.length
    rw [List.length_take] at this
    rw [List.length_map]
    exact q0c (by omega)
   ·obtain ⟨sm,hy,bl,rfl,hA,hN⟩:=hv
    obtain ⟨x,hxi⟩:∃ x,zs[i]?=some x:=⟨_,List.getElem?_eq_getElem (by omega)⟩
    obtain ⟨g,hg,b,rfl,hbg⟩:=hls.get hxi
    refine ⟨⟨_,_,SqL.of (sm _ _ hlh),hxi⟩,fun K1 k1 x H' y=>?_⟩
    obtain ⟨rfl,e⟩:=y
    have ex:=e _ (SqL.of (sm _ _ hlh))
    rw [hxi] at ex
    cases ex
    refine ⟨rfl,_,rfl,b,_,rfl,.inl (SqL.of (sm _ _ hbg)),fun l hl=>k1 _ _ ((Same.rfl'.new hl) _ _ hy) ⟨(sm.tr (Same.rfl'.new hl)).new hkk,q01,bl++[l],by rw [List.map_append];rfl,?_,?_⟩⟩
    ·have nl:l≠kk:=Ne.symm (q05 hy hl)
     rw [q0m hg]
     have last:LI (upd (upd H' l (.lst (g.map V.int))) kk (.lst (bl.map V.ref++[V.ref l]))) l g:=by
      rw [LI,q08 nl,q01]
     refine All2.append (hA.imp fun b g' ⟨hb,nb,fb⟩=>⟨?_,nb,fb⟩) (.cons ⟨last,nl,sm.free hl⟩ .nil)
     rw [LI,q08 nb]
     exact (Same.rfl'.new hl) _ _ hb
    ·refine List.nodup_append.mpr ⟨hN,by simp,fun x hx y hy' e=>?_⟩
     rw [List.mem_singleton] at hy'
     subst hy'
     subst e
     obtain ⟨k,hk⟩:=List.mem_iff_getElem?.mp hx
     obtain ⟨g',_,hb',_⟩:=hA.get hk
     have hb2:H' x=some (.lst (g'.map V.int)):=hb'
     rw [hl] at hb2
     cases hb2
   obtain ⟨s4,hkd,bl,rfl,hA,hN⟩:=hv
   rw [List.take_length] at hA
   have nks:kk≠sh:=Ne.symm (q05 hsl hkk)
   have hal:ads.length=j:=hads0.length.trans hshl
   have hxl:=hxr.length
   refine ⟨⟨_,SqL.of (s4 _ _ hlh),by omega⟩,sh,_,_,rfl,rfl,s4 _ _ hsl,by rw [List.length_map];exact q0c (by omega),?_⟩
   have keep:∀ b o,H4 b=some o→b≠sh→upd H4 sh (.lst ((ads.map fun p=>V.ref p.1)++[V.ref kk])) b=some o:=fun b o e hb=>by rw [q08 hb];exact e
   have fin:∀ b,H3 b=none→b≠sh:=fun b hb=>Ne.symm (q05 hsl hb)
   have blN:∀ b∈bl,H3 b=none∧b≠kk:=fun b hb=>by
    obtain ⟨k,hk⟩:=List.mem_iff_getElem?.mp hb
    obtain ⟨_,_,_,nb,fb⟩:=hA.get hk
    exact ⟨fb,nb⟩
   have newN:∀ b,b=kk∨b∈bl→H3 b=none:=fun b hb=>by
    rcases hb with rfl | hb
    ·exact hkk
    ·exact (blN b hb).1
   have efl:q3m (ads++[(kk,bl)])=q3m ads++(kk::bl):=by
    unfold q3m
    rw [List.flatMap_append]
    simp
   refine ⟨fun b o e=>keep b o (s4 _ _ (s3 _ _ e)) (q05 e fsh),ks,cof,huds,lh,zs,ads++[(kk,bl)],shown++[huds],_,_,_,?_,hnd,keep _ _ (s4 _ _ hlh) hof.1,?_,hof,by rw [List.map_append];exact q01,?_,?_,fun b hb=>?_,fun hb=>?_,by rw [List.length_append,hshl];rfl,fun k sk e=>?_,hdr,rfl⟩
   ·obtain ⟨kvs,h1,h2⟩:=hca
    exact ⟨kvs,keep _ _ (s4 _ _ h1) (q5q h1 hsl (by intro z;cases z)),h2⟩
   ·refine All2.mem_imp (fun z g hz ⟨b,e,hb⟩=>⟨b,e,keep _ _ (s4 _ _ hb) fun z'=>hof.2 z hz (by rw [e,z'])⟩) hls
   ·refine All2.append (All2.mem_imp (fun p hs hp ⟨h1,h2⟩=>?_) (hads3.keep (KL.of s4))) (.cons ⟨keep _ _ hkd nks,hA.imp fun b g ⟨hb,nb,fb⟩=>keep _ _ hb (fin b fb)⟩ .nil)
    have hm:∀ b∈p.1::p.2,b≠sh:=fun b hb z=>hsn (by rw [← z];exact List.mem_flatMap.mpr ⟨p,hp,hb⟩)
    exact ⟨keep _ _ h1 (hm _ List.mem_cons_self),All2.mem_imp (fun b g hb e=>keep _ _ e (hm b (List.mem_cons_of_mem _ hb))) h2⟩
   ·rw [efl]
    refine List.nodup_append.mpr ⟨hfn,List.nodup_cons.mpr ⟨fun z=>(blN kk z).2 rfl,hN⟩,fun x hx y hy e=>?_⟩
    subst e
    obtain ⟨vs,hvs⟩:=hads3.some hx
    have:=newN x (List.mem_cons.mp hy)
    rw [hvs] at this
    cases this
   ·rw [efl] at hb
    rcases List.mem_append.mp hb with h | h
    ·exact hff b h
    ·exact s3.free (newN b (List.mem_cons.mp h))
   ·rw [efl] at hb
    rcases List.mem_append.mp hb with h | h
    ·exact hsn h
    ·have:=newN sh (List.mem_cons.mp h)
     rw [hsl] at this
     cases this
   ·by_cases hk:k < shown.length
    ·rw [List.getElem?_append_left hk] at e
     exact hsk k sk e
    ·have hlt:=(List.getElem?_eq_some_iff.mp e).1
     rw [List.length_append,List.length_singleton] at hlt
     obtain rfl:k=shown.length:=by omega
     rw [List.getElem?_append_right (Nat.le_refl _),Nat.sub_self] at e
     cases e
     rw [hshl]
     exact ⟨cof,hdr⟩
  ·rintro σ H2 ⟨s2,ks,cof,huds,lh,zs,ads,shown,u2,u3,u4,hca,hnd,hlh,hls,hof,hsl,hads,hfn,hff,hsn,hshl,hsk,hdr,rfl⟩
   have hxl:=hxr.length
   rw [hxl] at hshl hdr
   rw [List.take_length] at hdr
   have D:=q7p hok hdr rnd rN
   have hkk:=hca.key
   have hkl:ks.length≤60:=by
    have:=q2l (q:=(ps.length:Int)) hnd fun x hx=>by
     obtain ⟨k,hk⟩:=Option.isSome_iff_exists.mp ((hkk x).mp hx)
     exact rN x (D.rng x k hk)
    omega
   refine ⟨_,rfl,_,rfl,a,ks,cof,cr,rfl,hca,hkl,fun b hb=>?_,hcr,fun H5 l as bs M5 hl5 hbp hbsorted=>?_⟩
   ·obtain ⟨k,hk⟩:=Option.isSome_iff_exists.mp ((hkk b).mp hb)
    exact ⟨k,hk,D.lt b k hk⟩
   refine ⟨_,rfl,by show 2≤sizeLine;decide,fun t ht9=>?_⟩
   exact kQ H2 _ t l sh as ads shown bs cof huds s2 hsl hads hfn hff fsh hsn hshl hsk (M5.same2 (Same.rfl'.new ht9)) hl5 q01 hdr (fun b=>(hbp.mem_iff).trans (hkk b)) hbsorted ((hbp.nodup_iff).mpr hnd)
inductive spDealMI (CT:Addr) (vs:List V) (H:Hp) (Q:VK) (E:XK):Prop
 | mk (p l2:Addr) (q:Int) (ys:List V) (ps:PP) (cr:Nat):(vs=[.ref p,.int (cr:Int)])→(TownAt CT H p l2 q ys)→(PV H ys ps)→(fits q ps=true)→(cr≤100)→(∀ (Hm H':Hp) (t l lh:Addr) (as:List Addr) (zs:List V) (bs:List Int) (cof:Int→Option Nat) (huds:List (List Int)),Same H Hm→Hm lh=some (.lst zs)→LS Hm zs huds→H lh=none→zs.Nodup→(∀ z∈zs,∃ a,z=.ref a∧H a=none)→LM Hm H' l as (lists cof cr bs)→Hm l=none→H' t=some (.tup [.ref l,.ref lh])→DealR (eb ps) cr (WP ps q cr) ps.length cof huds→(∀ b,b∈bs↔(cof b).isSome=true)→bs.Pairwise (·≤·)→bs.Nodup→Q (.ref t) H')→spDealMI CT vs H Q E
def spDealM (CT:Addr):Sp:=fun vs H Q E=>spDealMI CT vs H Q E
theorem scDealM:FnScope ["town", "crews", "told"] ["town", "crews"] (q03 q74):=⟨rfl,rfl,rfl,by decide +kernel,rfl,by decide +kernel,by decide +kernel⟩
theorem ok_dealM {f fB:Addr} {fd dB:FuncData} (T:Txt K mg CE CS CQ CT) (F:Fun K "deal_most" "deal_most" q74 f fd) (GB:Cal P w K mg base 4 "deal_by_rows" fB dB ["town", "crews", "rows"] (spRows CT)) :
  FnOk P w K mg base CX0 5 f fd ["town", "crews"] (spDealM CT):=by
 refine F.ok scDealM (fun vs H Q E h=>?_) (fun cdv A outer s H vs Q E hr h=>?_)
 ·obtain ⟨p,l2,q,ys,ps,cr,rfl,_⟩:=h
  rfl
 ·obtain ⟨p,l2,q,ys,ps,cr,rfl,ht,hp,hft,hcr,kQ⟩:=h
  refine ⟨_,q02 (q0a (i:=2) scDealM.nd rfl (Or.inl rfl) (q0h GB.ok hr (by rfl) GB.nm GB.kp GB.bi .nil q1a (q00 (pv 0) (q00 (pv 1) (q00 (q1q (q00 (q86 rfl (by rfl) T.list (by rfl) T.range (q0b q48 (by rfl) T.len PySem.boot_len (q00 (q3q (pv 0) rfl) q04))) q04)) q04)))))
   (q06 (q0i (q1u (q00 (q0n q18 (pv 2) q07 (fun _ _=>rfl)) (q00 (q0n q0g (q0n q18 (pv 2) q07 (fun _ _=>rfl)) q07 (fun _ _=>rfl)) q04))))),?_⟩
  try dsimp only [cx_of,cx_nox,cx_comp]
  obtain ⟨⟨hq1,hq2⟩,h60,hok⟩:=q1z hft
  have hlen:=hp.length
  have htl2:=ht.2
  obtain ⟨dx,htp⟩:=ht.1
  refine ⟨_,rfl,_,rfl,_,rfl,p,CT,dx,_,_,rfl,htp,T.cl,T.nb,q5m _ _,l2,ys,rfl,.inl (SqL.of htl2),ps.length,by rw [← hlen],by omega,fun r0 hr0=>⟨by show 1≤sizeLine;decide,fun lr hlr=>?_⟩⟩
  have s1:Same H (upd H r0 (.lst ((List.range ps.length).map fun k=>V.int ((k:Nat):Int)))):=Same.rfl'.new hr0
  have s2:Same (upd H r0 (.lst ((List.range ps.length).map fun k=>V.int ((k:Nat):Int)))) (upd (upd H r0 (.lst ((List.range ps.length).map fun k=>V.int ((k:Nat):Int)))) lr (.lst [.ref r0])):=Same.rfl'.new hlr
  have t2:=s1.tr s2
  have erow:LI (upd (upd H r0 (.lst ((List.range ps.length).map fun k=>V.int ((k:Nat):Int)))) lr (.lst [.ref r0])) r0 (allB ps.length):=by
   rw [LI,s2 _ _ q01]
   unfold allB
   rw [List.map_map]
   rfl
  have ef:([allB ps.length]:List (List Int)).flatten=allB ps.length:=by simp
  refine ⟨p,l2,lr,q,ys,[.ref r0],ps,cr,[allB ps.length],rfl,ht.same t2,hp.same t2,hft,hcr,q01,.cons ⟨r0,rfl,erow⟩ .nil,by rw [ef];exact q0w _,by rw [ef];exact fun b hb=>mem_allB.mp hb,by show 1≤60;omega,fun Hm H' t l sh as ads shown bs cof huds h1 hs had hfn hff fsh hsn hsl hsk h4 h5 h6 h7 h8 h9 h10=>?_⟩
  rw [ef] at h7
  obtain ⟨sk,rfl⟩:∃ sk,shown=[sk]:=List.length_eq_one_iff.mp hsl
  obtain ⟨cof',hd'⟩:=hsk 0 sk rfl
  rw [show ([allB ps.length].take (0+1)).flatten=allB ps.length from ef] at hd'
  obtain ⟨rfl,rfl⟩:=deal_fn hok h7 hd' (q0w _) fun b hb=>mem_allB.mp hb
  obtain ⟨⟨lh,bl⟩,rfl,⟨hlh,hbl⟩⟩:∃ p:Addr × List Addr,ads=[p]∧Hm p.1=some (.lst (p.2.map V.ref))∧All2 (fun b g=>LI Hm b g) p.2 huds:=by
   cases had with
   | cons h1 h2=>cases h2;exact ⟨_,rfl,h1⟩
  have hsh:H' sh=some (.lst [.ref lh]):=h4.same _ _ hs
  have hfl:q3m [(lh,bl)]=lh::bl:=by simp [q3m]
  rw [hfl] at hfn hff
  have h2:Hm lh=some (.lst (bl.map V.ref)):=hlh
  have h3:LS Hm (bl.map V.ref) huds:=q8e (fun b g e=>⟨b,rfl,e⟩) hbl
  have f1:_=none:=hff lh List.mem_cons_self
  have f2:(bl.map V.ref).Nodup:=by
   rw [List.nodup_iff_pairwise_ne,List.pairwise_map]
   exact (List.nodup_iff_pairwise_ne.mp (List.nodup_cons.mp hfn).2).imp fun h e=>h (by cases e;rfl)
  have f3:∀ z∈bl.map V.ref,∃ a,z=.ref a∧(upd (upd H r0 (.lst ((List.range ps.length).map fun k=>V.int ((k:Nat):Int)))) lr (.lst [.ref r0])) a=none:=fun z hz=>by
   obtain ⟨b,hb,rfl⟩:=List.mem_map.mp hz
   exact ⟨b,rfl,hff b (List.mem_cons_of_mem _ hb)⟩
  have h7:=deal_rl h7
  refine ⟨_,rfl,t,_,_,_,rfl,rfl,SqT.of h6,q09 (j:=0) rfl,_,rfl,t,_,_,_,rfl,rfl,SqT.of h6,q09 (j:=1) rfl,sh,_,_,_,rfl,rfl,SqL.of hsh,q09 (j:=0) rfl,by show 2≤sizeLine;decide,fun t9 ht9=>?_⟩
  exact kQ Hm _ t9 l lh as _ bs cof huds (t2.tr h1) h2 h3 (t2.free f1) f2 (fun z hz=>let ⟨a,e,f⟩:=f3 z hz;⟨a,e,t2.free f⟩) (h4.same2 (Same.rfl'.new ht9)) h5 q01 h7 h8 h9 h10
end
end K28
namespace K28
open PySem L2 XM GM
structure DlOk (ps:PP) (nss:List (List Int)):Prop where
 each:∀ g∈nss,q4n g ps.length=true∧Forest (eb ps) fun b=>b∈g
 nd:nss.flatten.Nodup
 fl:nss.flatten.length≤60
end K28
namespace K28
open PySem L2 XM GM
theorem comp_genI {J:It} {n:Nat} {H1:Hp} {D:Addr} {g:TG} {tc:TT} {te:TE} {k:Nat} {cs:List Nat} {σ:St} {Q:VK} (Pv:Nat→List V→Hp→Prop) (h0:Pv 0 [] (upd H1 D (.lst []))) (hP:∀ i ys H,i < n→Pv i ys H→ys.length < sizeLine)
  (step:∀ i ys H,i < n→Pv i ys H→J.go i H∧∀ (K1:VK) (K2:Hp→Prop),(∀ y H4,H4 D=some (.lst ys)→Pv (i+1) (ys++[y]) (upd H4 D (.lst (ys++[y])))→K1 y H4)→(∀ H3,Pv (i+1) ys H3→K2 H3)→
   ∀ x H',J.yld i H x H'→g x (capv k cs σ) H' fun σ2 H2=>σ2.drop k=cs.map (fun i=>σ.getD i none)∧tc σ2 H2 fun b H3=>if b=true then te σ2 H3 K1 else K2 H3)
  (fin:∀ ys H,Pv n ys H→J.stop n H∧Q (.ref D) H):z07 J k cs σ g tc te Q H1 D:=by
 refine ⟨fun i m ys H=>m=n - i∧i≤n∧Pv i ys H,⟨n,by simp,Nat.zero_le _,h0⟩,?_⟩
 rintro i m ys H ⟨rfl,hi,p⟩
 by_cases hlt:i < n
 ·obtain ⟨go,st⟩:=step i ys H hlt p
  refine .inr ⟨go,fun x H' y=>st (fun y H4=>H4 D=some (.lst ys)∧ys.length < sizeLine∧∃ m',m' < n - i∧m'=n - (i+1)∧i+1≤n∧Pv (i+1) (ys++[y]) (upd H4 D (.lst (ys++[y])))) (fun H3=>∃ m',m' < n - i∧m'=n - (i+1)∧i+1≤n∧Pv (i+1) ys H3) (fun y H4 e q=>?_) (fun H3 q=>?_) x H' y⟩
  ·exact ⟨e,hP i ys H hlt p,n - (i+1),by omega,rfl,hlt,q⟩
  ·exact ⟨n - (i+1),by omega,rfl,hlt,q⟩
 ·have e:i=n:=by omega
  subst e
  exact .inl (fin ys H p)
section
variable {P:Program} {w:World} {K:W.Frag} {mg:Str→Option Value} {base:Heap} {CE CS CQ CT:Addr}
theorem scParting:FnScope ["quarters", "huddles", "alone"] ["quarters", "huddles"] (q03 q2u):=⟨rfl,rfl,rfl,by decide +kernel,rfl,by decide +kernel,by decide +kernel⟩
def scAround:Scope:={ kind:=.function,names:=[(".0",.local),("quarter",.cell),("any",.globalImplicit),("huddles",.cell)],isGenerator:=false,isCoroutine:=false,more:=[] }
end
end K28
namespace K28
open PySem L2 XM GM
def q12 (huds:List (List Int)) (k:Nat):List (List Int):=((allB k).filter fun x=>!huds.any fun g=>g.contains x).map fun x=>[x]
theorem q4d (k:Nat):allB (k+1)=allB k++[(k:Int)]:=by
 unfold allB
 rw [List.range_succ,List.map_append]
 rfl
theorem alone_in {huds:List (List Int)} {k:Nat} (h:(huds.any fun g=>g.contains (k:Int))=false):q12 huds (k+1)=q12 huds k++[[(k:Int)]]:=by
 unfold q12
 rw [q4d,List.filter_append,List.map_append]
 simp only [List.filter_cons,h,Bool.not_false,if_true,List.filter_nil,List.map_cons,List.map_nil]
theorem alone_out {huds:List (List Int)} {k:Nat} (h:(huds.any fun g=>g.contains (k:Int))=true):q12 huds (k+1)=q12 huds k:=by
 unfold q12
 rw [q4d,List.filter_append,List.map_append]
 simp only [List.filter_cons,h,Bool.not_true,Bool.false_eq_true,if_false,List.filter_nil,List.map_nil,List.append_nil]
theorem q98 (huds:List (List Int)) (k:Nat):(q12 huds k).length≤k:=by
 unfold q12
 rw [List.length_map]
 refine Nat.le_trans (List.length_filter_le _ _) ?_
 rw [q1n]
 exact Nat.le_refl _
structure PartOk (q:Int) (huds nss:List (List Int)):Prop where
 perm:nss.Perm (huds++q12 huds q.toNat)
 ord:(huds++q12 huds q.toNat).Nodup→nss.Pairwise fun a b=>lexI a b=true
section
variable {P:Program} {w:World} {K:W.Frag} {mg:Str→Option Value} {base:Heap} {CE CS CQ CT:Addr}
inductive spPartingFI  (vs:List V) (H:Hp) (Q:VK) (E:XK):Prop
 | mk (q:Int) (lh:Addr) (zs:List V) (huds:List (List Int)):(vs=[.int q,.ref lh])→(1≤q)→(q≤24)→(H lh=some (.lst zs))→(LS H zs huds)→(huds.length≤24)→(∀ (H':Hp) (d:Addr) (xs:List V) (nss:List (List Int)),Same H H'→H d=none→H' d=some (.lst xs)→LS H' xs nss→PartOk q huds nss→(∀ x∈xs,x∈zs∨∃ a,x=.ref a∧H a=none)→Q (.ref d) H')→spPartingFI  vs H Q E
def q6i  : Sp:=fun vs H Q E=>spPartingFI  vs H Q E
theorem z0k {f:Addr} {fd:FuncData} (T:Txt K mg CE CS CQ CT) (F:Fun K "parting_around" "parting_around" q2u f fd) :
  FnOk P w K mg base CX0 1 f fd ["quarters", "huddles"] q6i:=by
 refine F.ok scParting (fun vs H Q E h=>?_) (fun cdv A outer s H vs Q E hr h=>?_)
 ·obtain ⟨q,lh,zs,huds,rfl,_⟩:=h
  rfl
 ·obtain ⟨q,lh,zs,huds,rfl,hq1,hq2,hlh,hls,hhl,kQ⟩:=h
  have hu:=hr.units
  have nd0:((["quarter"]:List Str)++(["huddles"]:List Str)).Nodup:=by decide +kernel
  have nd1:((["huddle"]:List Str)++(["quarter"]:List Str)).Nodup:=by decide +kernel
  refine ⟨_,q02 (ps_compN (i:=2) (own:=["quarter"]) (caps:=["huddles"]) (cs:=[1]) (sc:=q03 q2u) ⟨rfl,rfl,by decide +kernel,by decide +kernel,by decide +kernel,by decide +kernel,rfl⟩ rfl scParting.nd rfl rfl rfl
    (q1i (by rfl) T.range (q00 (pv 0) q04)) (fun _ _ _ _ _=>q0k (i:=0) nd0 rfl (Or.inr rfl) (.inl rfl))
    (fun _ _ _ _ _=>pf_one (q32 (q1t (q0b (q9g rfl) (by rfl) T.any q81 (q00 (q30 (own:=["huddle"]) (caps:=["quarter"]) (cs:=[0]) (sc:=scAround) ⟨rfl,rfl,by decide +kernel,by decide +kernel,by decide +kernel,by decide +kernel,rfl⟩ rfl
     (q19 (pv 1)) (fun _ _ _ _ _=>q0k (i:=0) nd1 rfl (Or.inl rfl) (.inr rfl)) (fun _ _ _ _ _=>q3c) (fun _ _ _ _ _=>q4q q5i (pv 1) (pv 0) rfl)) q04)))))
    (fun _ _ _ _ _=>q1q (q00 (pv 0) q04)))
   (q06 (q0i (q0b (q4y hu) (by rfl) T.sorted q1v (q00 (q0o op_cat (pv 1) (pv 2)) q04)))),?_⟩
  try dsimp only [cx_of,cx_nox,cx_comp]
  have hzl:=hls.length
  refine ⟨_,rfl,q,rfl,by omega,by omega,fun D hD=>?_⟩
  refine comp_genI (n:=q.toNat) (fun i ys H2=>Same H H2∧H2 D=some (.lst ys)∧All2 (fun y g=>∃ a,y=V.ref a∧a≠D∧H a=none∧LI H2 a g) ys (q12 huds i)) ⟨Same.rfl'.new hD,q01,.nil⟩ (fun i ys H2 hi hv=>?_) (fun i ys H2 hi hv=>?_) (fun ys H2 hv=>?_)
  ·have h1:=hv.2.2.length
   have h2:=q98 huds i
   exact q0c (by omega)
  ·obtain ⟨sm,hy,hye⟩:=hv
   refine ⟨hi,fun K1 K2 k1 k2 x H' yy=>?_⟩
   obtain ⟨rfl,rfl⟩:=yy
   have hlh2:=sm _ _ hlh
   have ei:(0:Int)+(i:Int)=(i:Int):=by omega
   rw [ei]
   refine ⟨rfl,_,rfl,lh,rfl,⟨_,SqL.of hlh2⟩,fun D2 hD2=>q4h (n:=huds.length) hD2 (fun j=>(huds.take j).map fun g=>V.bl (g.contains (i:Int))) rfl (fun j hj=>?_) (fun j H3 hj sm3 hD3=>?_) (fun H3 sm3 hD3=>?_)⟩
   ·rw [List.length_map,List.length_take]
    exact q0c (by omega)
   ·obtain ⟨z,hz⟩:∃ z,zs[j]?=some z:=⟨_,List.getElem?_eq_getElem (by omega)⟩
    obtain ⟨g,hg,a,rfl,hag0⟩:=hls.get hz
    have hag:LI H3 a g:=sm3 _ _ (sm _ _ hag0)
    refine ⟨⟨_,_,SqL.of (sm3 _ _ hlh2),hz⟩,fun L1 L2 l1 l2 x H4 yy=>?_⟩
    obtain ⟨rfl,e⟩:=yy
    have ex':=e _ (SqL.of (sm3 _ _ hlh2))
    rw [hz] at ex'
    cases ex'
    refine ⟨rfl,noIf (A:=fun _ H3=>_) (B:=fun _ H3=>L2 H3) ?_⟩
    refine ⟨_,rfl,_,rfl,a,_,rfl,.inl (SqL.of hag),rfl,q49 _,?_⟩
    rw [show (if false=true then !inV (V.int (i:Int)) (g.map V.int) else inV (V.int (i:Int)) (g.map V.int))=g.contains (i:Int) from by rw [if_neg Bool.false_ne_true,q55]]
    exact l1 _ _ Same.rfl' (by rw [q0m hg,List.map_append];rfl)
   ·refine ⟨⟨_,SqL.of (sm3 _ _ hlh2),by omega⟩,D2,huds.map fun g=>g.contains (i:Int),rfl,SqL.of (by rw [hD3,List.take_length,List.map_map];rfl),_,rfl,?_⟩
    have hy3:=sm3 _ _ hy
    have ea:(huds.map fun g=>g.contains (i:Int)).any id=huds.any fun g=>g.contains (i:Int):=by rw [List.any_map];rfl
    rw [ea]
    refine ite2 (fun h=>?_) (fun h=>?_)
    ·have h':(huds.any fun g=>g.contains (i:Int))=false:=by simpa using h
     refine ⟨_,rfl,by show 1≤sizeLine;decide,fun a ha=>?_⟩
     have u:Same H3 (upd H3 a (.lst [.int (i:Int)])):=Same.rfl'.new ha
     have haD:a≠D:=fun z=>by rw [z,hy3] at ha;cases ha
     refine k1 _ _ (u _ _ hy3) ⟨(sm.tr (sm3.tr u)).new hD,q01,?_⟩
     rw [alone_in h']
     have old:All2 (fun y g=>∃ b,y=V.ref b∧b≠D∧H b=none∧LI (upd (upd H3 a (.lst [.int (i:Int)])) D (.lst (ys++[.ref a]))) b g) ys (q12 huds i):=All2.imp (fun y g ⟨b,e,hb,hf,hbv⟩=>⟨b,e,hb,hf,(q08 hb).trans (u _ _ (sm3 _ _ hbv))⟩) hye
     exact q35 old ⟨a,rfl,haD,(sm.tr sm3).free ha,(q08 haD).trans q01⟩
    ·have h':(huds.any fun g=>g.contains (i:Int))=true:=by simpa using h
     refine k2 _ ⟨sm.tr sm3,hy3,?_⟩
     rw [alone_out h']
     exact All2.imp (fun y g ⟨b,e,hb,hf,hbv⟩=>⟨b,e,hb,hf,sm3 _ _ hbv⟩) hye
  ·obtain ⟨sm,hy,hye⟩:=hv
   have hyl:=hye.length
   have hal:=q98 huds q.toNat
   have hms:LS H2 ys (q12 huds q.toNat):=All2.imp (fun y g ⟨b,e,_,_,hbv⟩=>⟨b,e,hbv⟩) hye
   refine ⟨Nat.le_refl _,?_⟩
   refine ⟨_,rfl,_,rfl,lh,D,zs,ys,rfl,rfl,sm _ _ hlh,hy,by have:=q0c (n:=zs.length+ys.length) (by omega);omega,fun p hp=>?_⟩
   have u:Same H2 (upd H2 p (.lst (zs++ys))):=Same.rfl'.new hp
   have hall:LS (upd H2 p (.lst (zs++ys))) (zs++ys) (huds++q12 huds q.toNat):=All2.append ((hls.same sm).same u) (hms.same u)
   have hLl:=hall.length
   refine ⟨p,zs++ys,huds++q12 huds q.toNat,rfl,SqL.of q01,hLl,fun i z ns h1 h2=>?_,by rw [List.length_append];omega,fun d l hd hperm hord=>?_⟩
   ·obtain ⟨g,hg,a,rfl,hag⟩:=hall.get h1
    rw [h2] at hg
    cases hg
    exact ⟨a,rfl,SqL.of hag⟩
   ·have t4:=u.tr (Same.rfl'.new hd (o:=.lst (l.map fun i=>(zs++ys).getD i .non)))
    refine kQ _ d _ _ (sm.tr t4) ((sm.tr u).free hd) q01 (q7k (e:=[]) (All2.imp (fun x g ⟨a,e,ha⟩=>⟨a,e,(Same.rfl'.new hd) _ _ ha⟩) hall) fun i hi=>List.mem_range.mp (hperm.mem_iff.mp hi)) ⟨q4i (by rw [← hLl];exact hperm),hord⟩ fun x hx=>?_
    rcases List.mem_append.mp ((q4i (e:=V.non) hperm).mem_iff.mp hx) with h | h
    ·exact .inl h
    ·obtain ⟨i,hi⟩:=List.mem_iff_getElem?.mp h
     obtain ⟨g,_,a,ea,_,hf,_⟩:=hye.get hi
     exact .inr ⟨a,ea,hf⟩
end
end K28
namespace K28
open PySem L2 XM GM
theorem fits_mk {q:Int} {ps:PP} (h1:1≤q) (h2:q≤24) (h3:ps.length≤60) (h4:∀ p∈ps,q0z q p=true):fits q ps=true:=by
 unfold fits
 simp only [Bool.and_eq_true,decide_eq_true_eq,List.all_eq_true]
 exact ⟨⟨h1,h2⟩,h3,h4⟩
theorem le_lt {l:List Int} (hn:l.Nodup):l.Pairwise (·≤·)→l.Pairwise (· < ·):=fun h=>(List.pairwise_and_iff.mpr ⟨h,hn⟩).imp fun h=>by omega
theorem q1k {cof:Int→Option Nat} {bs:List Int} (nd:bs.Nodup):∀ n:Nat,(lists cof n bs).flatten.Nodup
 | 0=>by simp [lists]
 | n+1=>by
  have ih:=q1k (cof:=cof) nd n
  have e:lists cof (n+1) bs=lists cof n bs++[bs.filter fun b=>cof b == some n]:=by
   unfold lists
   rw [List.range_succ,List.map_append]
   rfl
  rw [e,List.flatten_append]
  refine List.nodup_append.mpr ⟨ih,(by rw [List.flatten_cons,List.flatten_nil,List.append_nil];exact nd.filter _),fun a ha c hc q=>?_⟩
  subst q
  have hc:a∈bs.filter fun b=>cof b == some n:=by simpa using hc
  have h1:=(List.mem_filter.mp hc).2
  obtain ⟨g,hg,hag⟩:=List.mem_flatten.mp ha
  unfold lists at hg
  obtain ⟨k,hk,rfl⟩:=List.mem_map.mp hg
  have h2:=(List.mem_filter.mp hag).2
  have hk:=List.mem_range.mp hk
  simp only [beq_iff_eq] at h1 h2
  rw [h1] at h2
  have:=Option.some.inj h2
  omega
theorem q3o {cof:Int→Option Nat} {bs:List Int} {n:Nat} (hb:∀ b,b∈bs↔(cof b).isSome=true) (hlt:∀ b k,cof b=some k→k < n) (x:Int):x∈(lists cof n bs).flatten↔(cof x).isSome=true:=by
 rw [List.mem_flatten]
 constructor
 ·rintro ⟨g,hg,hx⟩
  unfold lists at hg
  obtain ⟨k,hk,rfl⟩:=List.mem_map.mp hg
  have:=(List.mem_filter.mp hx).1
  exact (hb x).mp this
 ·intro h
  obtain ⟨k,hk⟩:=Option.isSome_iff_exists.mp h
  refine ⟨bs.filter fun b=>cof b == some k,?_,List.mem_filter.mpr ⟨(hb x).mpr h,by simp [hk]⟩⟩
  unfold lists
  exact List.mem_map.mpr ⟨k,List.mem_range.mpr (hlt x k hk),rfl⟩
theorem ends_of {ps:PP} {r:Nat} {q:Int} (hr:q=(r:Int)+1) (hok:∀ p∈ps,q0z q p=true):Ends (eb ps) ps.length (r+1):=fun b h0 h1=>by
 obtain ⟨f1,f2,_⟩:=q5v hok b h0 h1
 rw [hr] at f1 f2
 exact ⟨⟨f1.1,by have:=f1.2;omega⟩,⟨f2.1,by have:=f2.2;omega⟩⟩
theorem q8s {N:Nat} {cof:Int→Option Nat} {bs:List Int} (hb:∀ b,b∈bs↔(cof b).isSome=true) (nd:bs.Nodup) (rng:∀ b k,cof b=some k→0≤b∧b < (N:Int)) (k:Nat):(bs.filter fun b=>cof b == some k).length=((allB N).filter fun b=>cof b == some k).length:=by
 refine Nat.le_antisymm (q1c _ _ (nd.filter _) fun b h=>?_) (q1c _ _ ((q0w N).filter _) fun b h=>?_)
 ·obtain ⟨_,h2⟩:=List.mem_filter.mp h
  exact List.mem_filter.mpr ⟨mem_allB.mpr (rng b k (by simpa using h2)),h2⟩
 ·obtain ⟨_,h2⟩:=List.mem_filter.mp h
  have e:cof b=some k:=by simpa using h2
  exact List.mem_filter.mpr ⟨(hb b).mpr (by rw [e];rfl),h2⟩
theorem all_full {E:Int→Int × Int} {N n r:Nat} {cof:Int→Option Nat} {bs:List Int} (hE:Ends E N (r+1)) (hd:Dl E N n cof) (hb:∀ b,b∈bs↔(cof b).isSome=true) (nd:bs.Nodup) :
  ((lists cof n bs).map fun g=>decide (g.length=r)).all id=true↔cnt N cof=n*r:=by
 rw [cnt_full hE hd,List.all_eq_true]
 constructor
 ·intro h k hk
  have:=h (decide ((bs.filter fun b=>cof b == some k).length=r)) (List.mem_map.mpr ⟨_,List.mem_of_getElem? (q2a hk),rfl⟩)
  rw [← q8s hb nd hd.rng k]
  simpa using this
 ·intro h x hx
  obtain ⟨g,hg,rfl⟩:=List.mem_map.mp hx
  unfold lists at hg
  obtain ⟨k,hk,rfl⟩:=List.mem_map.mp hg
  have:=h k (List.mem_range.mp hk)
  rw [← q8s hb nd hd.rng k] at this
  simp [this]
theorem huds_few {E:Int→Int × Int} {N n:Nat} {q:Int} {cof:Int→Option Nat} {huds:List (List Int)} (D:DI E n q N cof huds) (hq:1≤q) (hq2:q≤24):huds.length≤24:=by
 have h1:huds.length≤huds.flatten.length:=by
  have:∀ l:List (List Int),(∀ g∈l,2≤g.length)→l.length≤l.flatten.length:=fun l=>by
   induction l with
   | nil=>intro _;exact Nat.le_refl _
   | cons a t ih=>
    intro h
    have h1:=ih fun g hg=>h g (List.mem_cons_of_mem _ hg)
    have h2:=h a List.mem_cons_self
    rw [List.flatten_cons,List.length_append,List.length_cons]
    omega
  exact this _ D.two
 have h2:=q1c huds.flatten (allB q.toNat) D.nd fun x hx=>by
  obtain ⟨g,hg,hxg⟩:=List.mem_flatten.mp hx
  have:=D.qr g hg x hxg
  exact mem_allB.mpr ⟨this.1,by omega⟩
 rw [q1n] at h2
 omega
structure GP (nss:List (List Int)) (q:Int):Prop where
 pf:q2r (-1) q nss=true
 nd:nss.flatten.Nodup
 has:∀ y,0≤y→y < q→y∈nss.flatten
section
variable {ps:PP} {q:Int} {c r:Nat} {cof:Int→Option Nat} {huds nss:List (List Int)} {bs:List Int}
theorem dl_ok (h60:ps.length≤60) (D:DI (eb ps) c q ps.length cof huds) (hb:∀ b,b∈bs↔(cof b).isSome=true) (so:bs.Pairwise (·≤·)) (nd:bs.Nodup):DlOk ps (lists cof c bs)∧(lists cof c bs).flatten.length≤ps.length:=by
 have hm:=q3o hb D.lt
 have hlen:(lists cof c bs).flatten.length≤ps.length:=by
  have h1:=q1c _ (allB ps.length) (q1k nd c) fun b h=>by
   obtain ⟨k,hk⟩:=Option.isSome_iff_exists.mp ((hm b).mp h)
   exact mem_allB.mpr (D.rng b k hk)
  rwa [q1n] at h1
 refine ⟨⟨fun g hg=>?_,q1k nd c,by omega⟩,hlen⟩
 obtain ⟨k,hk⟩:=List.mem_iff_getElem?.mp hg
 have hmk:=q5n hb hk
 have hkl:k < c:=by
  have:=(List.getElem?_eq_some_iff.mp hk).1
  rwa [q1g] at this
 rw [q2a hkl] at hk
 cases hk
 have ndg:=nd.filter (fun b=>cof b == some k)
 exact ⟨risesB_iff.mpr ⟨le_lt ndg (so.filter _),fun x hx=>D.rng x k ((hmk x).mp hx)⟩,(D.fo k).mono fun b hb'=>(hmk b).mp hb'⟩
theorem q6g:∀ {l:List (List Int)},(∀ g∈l,g.length=r)→l.flatten.length=l.length*r
 | [],_=>by simp
 | g::t,h=>by
  rw [List.flatten_cons,List.length_append,h g List.mem_cons_self,q6g fun x hx=>h x (List.mem_cons_of_mem _ hx),List.length_cons,Nat.add_mul]
  omega
def apartP (ps:PP) (nss:List (List Int)) (k:Nat):Bool:=!nss.any fun g=>g.contains (eb ps (k:Int)).1 && g.contains (eb ps (k:Int)).2
theorem q56:∀ l:List Int,(l.map fun x=>[x]).flatten=l
 | []=>rfl
 | a::t=>by rw [List.map_cons,List.flatten_cons,q56 t];rfl
theorem any_mem {x:Int}:(huds.any fun g=>g.contains x)=true↔x∈huds.flatten:=by
 rw [List.any_eq_true,List.mem_flatten]
 constructor
 ·rintro ⟨g,hg,h⟩
  exact ⟨g,hg,List.contains_iff_mem.mp h⟩
 ·rintro ⟨g,hg,h⟩
  exact ⟨g,hg,List.contains_iff_mem.mpr h⟩
theorem mem_alone {x:Int} {k:Nat}:x∈(q12 huds k).flatten↔(0≤x∧x < (k:Int))∧x ∉ huds.flatten:=by
 unfold q12
 rw [q56,List.mem_filter,mem_allB]
 constructor
 ·rintro ⟨h1,h2⟩
  refine ⟨h1,fun hx=>?_⟩
  rw [any_mem.mpr hx] at h2
  cases h2
 ·rintro ⟨h1,h2⟩
  refine ⟨h1,?_⟩
  cases e:huds.any fun g=>g.contains x with
  | false=>rfl
  | true=>exact absurd (any_mem.mp e) h2
theorem part_gp (D:DI (eb ps) c q ps.length cof huds) (hq1:1≤q) (hq:q=(r:Int)+1) (h:PartOk q huds nss):GP nss q∧nss.length=huds.length+(r+1 - huds.flatten.length):=by
 have hqn:((q.toNat:Nat):Int)=q:=by omega
 have hnd:(huds++q12 huds q.toNat).flatten.Nodup:=by
  rw [List.flatten_append]
  refine List.nodup_append.mpr ⟨D.nd,?_,fun a ha b hb e=>?_⟩
  ·unfold q12
   rw [q56]
   exact (q0w _).filter _
  ·subst e
   exact (mem_alone.mp hb).2 ha
 have hhas:∀ y,y∈(huds++q12 huds q.toNat).flatten↔0≤y∧y < q:=fun y=>by
  rw [List.flatten_append,List.mem_append,mem_alone,hqn]
  constructor
  ·rintro (h | h)
   ·obtain ⟨g,hg,hy⟩:=List.mem_flatten.mp h
    exact D.qr g hg y hy
   ·exact h.1
  ·intro h
   by_cases hy:y∈huds.flatten
   ·exact .inl hy
   ·exact .inr ⟨h,hy⟩
 have each:∀ g∈huds++q12 huds q.toNat,q4n g q=true∧g≠[]:=fun g hg=>by
  rcases List.mem_append.mp hg with hg | hg
  ·refine ⟨risesB_iff.mpr ⟨le_lt (q5x D.nd g hg) (D.rise g hg),D.qr g hg⟩,fun e=>?_⟩
   have:=D.two g hg
   rw [e] at this
   cases this
  ·unfold q12 at hg
   obtain ⟨x,hx,rfl⟩:=List.mem_map.mp hg
   have hx:=mem_allB.mp (List.mem_filter.mp hx).1
   refine ⟨risesB_iff.mpr ⟨by simp,fun y hy=>?_⟩,by simp⟩
   rw [List.mem_singleton] at hy
   rw [hy]
   omega
 have each':∀ g∈nss,q4n g q=true∧g≠[]:=fun g hg=>each g (h.perm.mem_iff.mp hg)
 have pf:nss.flatten.Perm (huds++q12 huds q.toNat).flatten:=h.perm.flatten
 have nd':nss.flatten.Nodup:=pf.nodup_iff.mpr hnd
 have hd:=q7g nd' (fun g hg=>(each' g hg).2) (h.ord (q40 hnd fun g hg=>(each g hg).2))
 refine ⟨⟨partsFrom_iff.mpr ⟨each',hd,fun g hg=>?_⟩,nd',fun y h0 h1=>pf.mem_iff.mpr ((hhas y).mpr ⟨h0,h1⟩)⟩,?_⟩
 ·have:=(head_in (each' g hg).1 (each' g hg).2).1
  omega
 ·have h1:=h.perm.length_eq
  rw [List.length_append] at h1
  have h2:(huds++q12 huds q.toNat).flatten.length=r+1:=by
   have a:=q1c _ (allB (r+1)) hnd fun y hy=>mem_allB.mpr (by have:=(hhas y).mp hy;omega)
   have b:=q1c (allB (r+1)) (huds++q12 huds q.toNat).flatten (q0w _) fun y hy=>(hhas y).mpr (by have:=mem_allB.mp hy;omega)
   rw [q1n] at a b
   omega
  rw [List.flatten_append,List.length_append] at h2
  have h3:(q12 huds q.toNat).flatten.length=(q12 huds q.toNat).length:=by
   unfold q12
   rw [q56,List.length_map]
  omega
theorem filt_le {p p':Nat→Bool}:∀ l:List Nat,(∀ k,p k=true→p' k=true)→(l.filter p).length≤(l.filter p').length
 | [],_=>Nat.le_refl _
 | a::t,h=>by
  have ih:=filt_le t h
  rw [List.filter_cons,List.filter_cons]
  by_cases hp:p a=true
  ·rw [if_pos hp,if_pos (h a hp),List.length_cons,List.length_cons]
   omega
  ·rw [if_neg hp]
   split
   ·rw [List.length_cons]
    omega
   ·exact ih
theorem part_few (hok:∀ p∈ps,q0z q p=true) (D:DI (eb ps) c q ps.length cof huds) (hq1:1≤q) (hq:q=(r:Int)+1) (h:PartOk q huds nss) (hlt:cnt ps.length cof < c*r):((List.range ps.length).filter (apartP ps nss)).length < c*(nss.length - 1):=by
 have h1:=D.few hq hlt
 obtain ⟨_,h2⟩:=part_gp D hq1 hq h
 rw [← h2] at h1
 refine Nat.lt_of_le_of_lt ?_ h1
 have e:((allB ps.length).filter fun b=>!huds.any fun g=>wi (eb ps) g b)=((List.range ps.length).filter fun (k:Nat)=>!huds.any fun g=>wi (eb ps) g (k:Int)).map fun (k:Nat)=>(k:Int):=by
  unfold allB
  rw [List.filter_map]
  rfl
 rw [e,List.length_map]
 refine filt_le _ fun k hk=>?_
 unfold apartP at hk
 cases hw:huds.any fun g=>wi (eb ps) g (k:Int) with
 | false=>rfl
 | true=>
  obtain ⟨g,hg,hgw⟩:=List.any_eq_true.mp hw
  have:(nss.any fun g=>g.contains (eb ps (k:Int)).1 && g.contains (eb ps (k:Int)).2)=true:=List.any_eq_true.mpr ⟨g,h.perm.mem_iff.mpr (List.mem_append_left _ hg),hgw⟩
  rw [this] at hk
  cases hk
end
end K28
namespace K28
open PySem L2 XM GM
structure JC (H:Hp) (ps:PP) (r c:Nat) (t l:Addr) (xd:List V) (nss:List (List Int)):Prop where
 ht:H t=some (.tup [.str "crews",.ref l])
 hl:H l=some (.lst xd)
 ls:LS H xd nss
 len:nss.length=c
 ok:DlOk ps nss
 fl:nss.flatten.length=c*r
 le:c*r≤ps.length
 mx:Mx (eb ps) ps.length c (c*r)
structure JT (H:Hp) (ps:PP) (q:Int) (r c:Nat) (t a:Addr) (xs:List V) (nss:List (List Int)):Prop where
 ht:H t=some (.tup [.str "parting",.ref a])
 ha:H a=some (.lst xs)
 ls:LS H xs nss
 gp:GP nss q
 few:((List.range ps.length).filter (apartP ps nss)).length < c*(nss.length - 1)
 mx:∃ m,Mx (eb ps) ps.length c m∧m < c*r
def JO (H:Hp) (ps:PP) (r c:Nat) (t:Addr):Prop:=(∃ l xd nss,JC H ps r c t l xd nss)∨∃ a xs nss,JT H ps ((r:Int)+1) r c t a xs nss
section
variable {P:Program} {w:World} {K:W.Frag} {mg:Str→Option Value} {base:Heap} {CE CS CQ CT:Addr}
inductive spJoinedI (CT:Addr) (vs:List V) (H:Hp) (Q:VK) (E:XK):Prop
 | mk (p l2:Addr) (r:Nat) (ys:List V) (ps:PP) (cr:Nat):(vs=[.ref p,.int (cr:Int)])→(TownAt CT H p l2 ((r:Int)+1) ys)→(PV H ys ps)→(fits ((r:Int)+1) ps=true)→(cr≤100)→(∀ (H':Hp) (t:Addr),Same H H'→JO H' ps r cr t→Q (.ref t) H')→spJoinedI CT vs H Q E
def z0t (CT:Addr):Sp:=fun vs H Q E=>spJoinedI CT vs H Q E
theorem scJoined:FnScope ["town", "crews", "told"] ["town", "crews"] (q03 q3x):=⟨rfl,rfl,rfl,by decide +kernel,rfl,by decide +kernel,by decide +kernel⟩
theorem ok_joined {f fD fP:Addr} {fd dD dP:FuncData} (T:Txt K mg CE CS CQ CT) (F:Fun K "joined_or_parted" "joined_or_parted" q3x f fd)
  (GD:Cal P w K mg base 5 "deal_most" fD dD ["town", "crews"] (spDealM CT)) (GP:Cal P w K mg base 1 "parting_around" fP dP ["quarters", "huddles"] q6i) :
  FnOk P w K mg base CX0 6 f fd ["town", "crews"] (z0t CT):=by
 refine F.ok scJoined (fun vs H Q E h=>?_) (fun cdv A outer s H vs Q E hr h=>?_)
 ·obtain ⟨p,l2,r,ys,ps,cr,rfl,_⟩:=h
  rfl
 ·obtain ⟨p,l2,r,ys,ps,cr,rfl,ht,hp,hft,hcr,kQ⟩:=h
  have hr1:=hr.mono (show 1≤5 by omega)
  have nd0:((["own"]:List Str)++(["town"]:List Str)).Nodup:=by decide +kernel
  refine ⟨_,q02 (q0a (i:=2) scJoined.nd rfl (Or.inl rfl) (q0h GD.ok hr (by rfl) GD.nm GD.kp GD.bi .nil q1a (q00 (pv 0) (q00 (pv 1) q04))))
   (q02 (q11 (q1t (q0b (c_all rfl) (by rfl) T.all z1b (q00 (q30 (own:=["own"]) (caps:=["town"]) (cs:=[0]) (sc:=q03 q3x) ⟨rfl,rfl,by decide +kernel,by decide +kernel,by decide +kernel,by decide +kernel,rfl⟩ rfl
     (q19 (q0n q18 (pv 2) q07 (fun _ _=>rfl))) (fun _ _ _ _ _=>q0k (i:=0) nd0 rfl (Or.inl rfl) (.inr rfl)) (fun _ _ _ _ _=>q3c)
     (fun _ _ _ _ _=>q4q q2z (q0b q48 (by rfl) T.len PySem.boot_len (q00 (pv 0) q04)) (q0o q61 (q3q (pv 1) rfl) q07) (q0u _))) q04)))
    (q06 (q0i (q1u (q00 q0x (q00 (q0n q18 (pv 2) q07 (fun _ _=>rfl)) q04))))) q0f)
   (q06 (q0i (q1u (q00 q0x (q00 (q0h GP.ok hr1 (by rfl) GP.nm GP.kp GP.bi .nil q1a (q00 (q3q (pv 0) rfl) (q00 (q0n q18 (pv 2) q07 (fun _ _=>rfl)) q04))) q04)))))),?_⟩
  try dsimp only [cx_of,cx_nox,cx_comp]
  obtain ⟨hq12,h60,hok⟩:=q1z hft
  have hE:=ends_of rfl hok
  refine ⟨_,rfl,_,rfl,p,l2,_,ys,ps,cr,rfl,ht,hp,hft,hcr,fun Hm H1 t l lh as zs bs cof huds s1 hlh hls _ _ _ M hl htt hdr hmem hso hnd=>?_⟩
  have D:=deal_di hok hdr (Nat.le_refl _)
  have hfull:=all_full hE D.dl hmem hnd
  have hlh1:=M.same _ _ hlh
  have hls1:=hls.same M.same
  have s01:=s1.tr M.same
  have hal:as.length=cr:=by rw [M.len,q1g]
  obtain ⟨⟨dx,hpx⟩,_⟩:=ht.same s01
  refine ⟨_,rfl,t,_,_,_,rfl,rfl,SqT.of htt,q09 (j:=0) rfl,l,rfl,⟨_,SqL.of M.hl⟩,fun D1 hD1=>q4h (n:=cr) hD1 (fun i=>((lists cof cr bs).take i).map fun g=>V.bl (decide (g.length=r))) rfl (fun i hi=>?_) (fun i H2 hi sm hD2=>?_) (fun H2 sm hD2=>?_)⟩
  ·rw [List.length_map,List.length_take]
   exact q0c (by omega)
  ·obtain ⟨a,ha⟩:∃ a,as[i]?=some a:=⟨_,List.getElem?_eq_getElem (by omega)⟩
   have hz:(as.map V.ref)[i]?=some (.ref a):=by rw [List.getElem?_map,ha];rfl
   obtain ⟨g,hg⟩:∃ g,(lists cof cr bs)[i]?=some g:=⟨_,List.getElem?_eq_getElem (by rw [q1g];omega)⟩
   have hag:LI H2 a g:=sm _ _ (M.ls i a g ha hg)
   refine ⟨⟨_,_,SqL.of (sm _ _ M.hl),hz⟩,fun K1 K2 k1 k2 x H' yy=>?_⟩
   obtain ⟨rfl,e⟩:=yy
   have ex':=e _ (SqL.of (sm _ _ M.hl))
   rw [hz] at ex'
   cases ex'
   refine ⟨rfl,noIf (A:=fun _ H3=>_) (B:=fun _ H3=>K2 H3) ?_⟩
   refine ⟨_,rfl,a,_,rfl,.inl (SqL.of hag),_,rfl,p,CT,dx,_,_,rfl,sm _ _ hpx,T.cl,T.nq,flds_q _ _,_,_,rfl,rfl,rfl,?_⟩
   refine k1 _ _ Same.rfl' ?_
   rw [q0m hg,List.map_append,List.length_map,q25]
   rw [show decide (((g.length:Nat):Int)=(r:Int)+1 - 1)=decide (g.length=r) from decide_eq_decide.mpr (by omega)]
   rfl
  ·refine ⟨⟨_,SqL.of (sm _ _ M.hl),by rw [List.length_map];omega⟩,D1,(lists cof cr bs).map fun g=>decide (g.length=r),rfl,SqL.of ?_,_,rfl,?_⟩
   ·rw [hD2,List.take_of_length_le (by rw [q1g];omega),List.map_map]
    rfl
   have htt2:=sm _ _ htt
   refine ite2 (fun h=>?_) (fun h=>?_)
   ·refine ⟨_,rfl,t,_,_,_,rfl,rfl,SqT.of htt2,q09 (j:=0) rfl,by show 2≤sizeLine;decide,fun t2 ht2=>?_⟩
    have s2:Same H2 (upd H2 t2 (.tup [.str "crews",.ref l])):=Same.rfl'.new ht2
    have hm:=D.mx
    rw [hfull.mp h] at hm
    obtain ⟨d1,d2⟩:=dl_ok h60 D hmem hso hnd
    have each:∀ g∈lists cof cr bs,g.length=r:=fun g hg=>by
     have:=List.all_eq_true.mp h (decide (g.length=r)) (List.mem_map.mpr ⟨g,hg,rfl⟩)
     exact of_decide_eq_true this
    have efl:=q6g each
    rw [q1g] at efl
    exact kQ _ t2 (s01.tr (sm.tr s2)) (.inl ⟨l,_,_,q01,s2 _ _ (sm _ _ M.hl),(M.out.same sm).same s2,q1g _ _ _,d1,efl,by omega,hm⟩)
   ·refine ⟨_,rfl,p,CT,dx,_,_,rfl,sm _ _ hpx,T.cl,T.nq,flds_q _ _,_,rfl,t,_,_,_,rfl,rfl,SqT.of htt2,q09 (j:=1) rfl,_,lh,zs,huds,rfl,by omega,by omega,sm _ _ hlh1,hls1.same sm,huds_few D (by omega) (by omega),fun H3 a xs3 nss3 s3 _ ha3 hls3 hpo _=>?_⟩
    refine ⟨by show 2≤sizeLine;decide,fun t2 ht2=>?_⟩
    have s4:Same H3 (upd H3 t2 (.tup [.str "parting",.ref a])):=Same.rfl'.new ht2
    have h1:=Mx.ub hE D.mx
    have h2:cnt ps.length cof≠cr*r:=fun z=>h (hfull.mpr z)
    have h3:cnt ps.length cof < cr*r:=by omega
    exact kQ _ t2 (s01.tr (sm.tr (s3.tr s4))) (.inr ⟨a,xs3,nss3,q01,s4 _ _ ha3,hls3.same s4,(part_gp D (by omega) rfl hpo).1,part_few hok D (by omega) rfl hpo h3,_,D.mx,h3⟩)
end
end K28
namespace K28
open PySem L2 XM GM
end K28
namespace K28.B5
open PySem L2 XM GM K28
section
variable {P:Program} {w:World} {K:W.Frag} {mg:Str→Option Value} {base:Heap} {CE CS CQ CT:Addr}
inductive spTogetherI  (vs:List V) (H:Hp) (Q:VK) (E:XK):Prop
 | mk (l:Addr) (xs:List V) (nss:List (List Int)):(vs=[.ref l])→(H l=some (.lst xs))→(LS H xs nss)→(nss.flatten.length≤1000)→(∀ (H':Hp) (m:Addr),Same H H'→H m=none→LI H' m nss.flatten→Q (.ref m) H')→spTogetherI  vs H Q E
def spTogether  : Sp:=fun vs H Q E=>spTogetherI  vs H Q E
theorem scTogether:FnScope ["lists", "together", "numbers"] ["lists"] (q03 q23):=⟨rfl,rfl,rfl,by decide +kernel,rfl,by decide +kernel,by decide +kernel⟩
theorem q8w {nss:List (List Int)} {i:Nat} {ns:List Int} (h:nss[i]?=some ns):(nss.take (i+1)).flatten=(nss.take i).flatten++ns:=by
 rw [q0m h,List.flatten_append]
 simp
theorem q34 (nss:List (List Int)) (i:Nat):(nss.take i).flatten.length≤nss.flatten.length:=by
 have e:nss.flatten=(nss.take i).flatten++(nss.drop i).flatten:=by rw [← List.flatten_append,List.take_append_drop]
 rw [e,List.length_append]
 omega
theorem ok_together {f:Addr} {fd:FuncData} (T:Txt K mg CE CS CQ CT) (F:Fun K "put_together" "put_together" q23 f fd):FnOk P w K mg base CX0 1 f fd ["lists"] spTogether:=by
 refine F.ok scTogether (fun vs H Q E h=>?_) (fun cdv A outer s H vs Q E hr h=>?_)
 ·obtain ⟨l,xs,nss,rfl,_⟩:=h
  rfl
 ·obtain ⟨l,xs,nss,rfl,hl,hx,hn,kQ⟩:=h
  refine ⟨_,q02 (q0a (i:=1) scTogether.nd rfl (Or.inl rfl) (q1q q04))
   (q02 (q21 PassesOwn.never rfl (q19 (pv 0)) (q0k (i:=2) scTogether.nd rfl (Or.inl rfl))
    (q06 (q0q (q3n PySem.F.plainAttrs_list PySem.F.slot_list_extend PySem.F.type_list_extend q8t (pv 1) (q00 (pv 2) q04)))))
   (q06 (q0i (pv 1)))),?_⟩
  try dsimp only [cx_of,cx_nox,cx_comp]
  have hlen:=hx.length
  refine ⟨by show 0≤sizeLine;decide,fun m hm=>?_⟩
  have s0:Same H (upd H m (.lst [])):=Same.rfl'.new hm
  refine ⟨_,rfl,l,rfl,⟨_,SqL.of (s0 _ _ hl)⟩,q1x (K:=K) (a:=l) (xs:=xs) (fun i σ H2=>Same H H2∧LI H2 m ((nss.take i).flatten)∧∃ u,σ=[some (.ref l),some (.ref m),u])
   ⟨s0,q01,_,rfl⟩ (fun i σ H2 _ ⟨e,_⟩=>SqL.of (e _ _ hl)) ?_ ?_⟩
  ·rintro i x σ H2 hi ⟨s2,hm2,u,rfl⟩
   obtain ⟨ns,hns,a,rfl,ha⟩:=hx.get hi
   have ha2:LI H2 a ns:=s2 _ _ ha
   refine ⟨_,rfl,.inl ⟨rfl,_,SqL.of hm2⟩,_,rfl,m,a,_,_,rfl,rfl,hm2,ha2,?_,?_⟩
   ·rw [List.length_map,List.length_map]
    have h1:=q34 nss (i+1)
    rw [q8w hns,List.length_append] at h1
    exact Nat.le_of_lt (q0c (by omega))
   ·refine ⟨fun b o e=>?_,?_,_,rfl⟩
    ·rw [q08 (q05 e hm)]
     exact s2 _ _ e
    ·rw [LI,q01,q8w hns,List.map_append]
  ·rintro σ H2 ⟨s2,hm2,u,rfl⟩
   rw [hlen,List.take_length] at hm2
   exact ⟨_,rfl,kQ H2 m s2 hm hm2⟩
end
end K28.B5
namespace K28
open PySem L2 XM GM
theorem cpow60:CPow 10 60:=⟨by decide,by decide,by decide⟩
theorem wg_nat {ws:List Int} {i:Nat} (h:i < ws.length):wg ws (i:Int)=ws[i]:=by
 unfold wg
 rw [Int.toNat_natCast,List.getD_eq_getElem?_getD,List.getElem?_eq_getElem h]
 rfl
def amR (n:Int):Bool:=decide (0≤n) && decide (n≤10 ^ 60)
def q0s (ws:List Int) (c:Nat):Bool:=decide (ws.length=c) && ws.all amR
section
variable {P:Program} {w:World} {K:W.Frag} {mg:Str→Option Value} {base:Heap} {CE CS CQ CT:Addr}
inductive spAmountsI  (vs:List V) (H:Hp) (Q:VK) (E:XK):Prop
 | mk (l:Addr) (ws:List Int) (c:Nat):(vs=[.ref l,.int (c:Int)])→(LI H l ws)→(ws.length≤1000)→(∀ H',Same H H'→Q (.bl (q0s ws c)) H')→spAmountsI  vs H Q E
def q8x  : Sp:=fun vs H Q E=>spAmountsI  vs H Q E
theorem scAmounts:FnScope ["numbers", "count"] ["numbers", "count"] (q03 q2v):=⟨rfl,rfl,rfl,by decide +kernel,rfl,by decide +kernel,by decide +kernel⟩
theorem ok_amounts {f:Addr} {fd:FuncData} (T:Txt K mg CE CS CQ CT) (F:Fun K "are_amounts" "are_amounts" q2v f fd):FnOk P w K mg base CX0 1 f fd ["numbers", "count"] q8x:=by
 refine F.ok scAmounts (fun vs H Q E h=>?_) (fun cdv A outer s H vs Q E hr h=>?_)
 ·obtain ⟨l,ws,c,rfl,_⟩:=h
  rfl
 ·obtain ⟨l,ws,c,rfl,hl,hn,kQ⟩:=h
  have nd2:((["number"]:List Str)++([]:List Str)).Nodup:=by decide +kernel
  refine ⟨_,q06 (q0i (z18 (q4q q2z (q0b q48 (by rfl) T.len PySem.boot_len (q00 (pv 0) q04)) (pv 1) (q0u _)) (pe_one (q0b (c_all rfl) (by rfl) T.all z1b (q00
   (q30 (own:=["number"]) (caps:=[]) (cs:=[]) (sc:=q03 q2v) ⟨rfl,rfl,by decide +kernel,by decide +kernel,by decide +kernel,by decide +kernel,rfl⟩ rfl
   (q19 (pv 0)) (fun _ _ _ _ _=>q0k (i:=0) nd2 rfl (Or.inl rfl) (.inr rfl)) (fun _ _ _ _ _=>q3c) (fun _ _ _ _ _=>z1n z0l z0l q07 (pv 0) (q0o q8h q07 q07))) q04))))),?_⟩
  try dsimp only [cx_of,cx_nox,cx_comp]
  refine ⟨_,rfl,l,_,rfl,.inl (SqL.of hl),_,rfl,rfl,_,rfl,?_⟩
  rw [List.length_map,dec_nat]
  have e0:q0s ws c=(decide (ws.length=c) && ws.all amR):=rfl
  by_cases hc:ws.length=c
  ·rw [decide_eq_true hc]
   refine iteT ⟨_,rfl,l,rfl,⟨_,SqL.of hl⟩,fun D hD=>q5p (n:=ws.length) hD (fun i=>(ws.take i).map fun n=>V.bl (amR n)) rfl (fun i hi=>?_) (fun i H2 hi sm hD2=>?_) (fun H2 sm hD2=>?_)⟩
   ·rw [List.length_map,List.length_take]
    exact q0c (by omega)
   ·have q2:LI H2 l ws:=sm _ _ hl
    have e1:(ws.map V.int)[i]?=some (.int ws[i]):=by rw [List.getElem?_map,List.getElem?_eq_getElem hi];rfl
    refine ⟨⟨_,_,SqL.of q2,e1⟩,fun K1 k1 x H' y=>?_⟩
    obtain ⟨rfl,e⟩:=y
    have ex:=e _ (SqL.of q2)
    rw [e1] at ex
    cases ex
    refine ⟨rfl,⟨_,rfl,_,_,rfl,rfl,_,rfl,?_⟩⟩
    have fin:∀ b,b=amR ws[i]→K1 (.bl b) H':=fun b eb=>k1 _ _ Same.rfl' (by rw [q4g (List.getElem?_eq_getElem hi),eb])
    by_cases h0:0≤ws[i]
    ·rw [decide_eq_true h0]
     refine iteT ⟨_,_,rfl,rfl,cpow60,_,_,rfl,rfl,fin _ ?_⟩
     unfold amR
     rw [decide_eq_true h0]
     rfl
    ·rw [decide_eq_false h0]
     refine iteF (fin _ ?_)
     unfold amR
     rw [decide_eq_false h0]
     rfl
   ·have q2:LI H2 l ws:=sm _ _ hl
    refine ⟨⟨_,SqL.of q2,by rw [List.length_map];exact Nat.le_refl _⟩,D,ws.map amR,rfl,SqL.of ?_,?_⟩
    ·rw [hD2,List.take_length,List.map_map]
     rfl
    ·have:=kQ H2 sm
     rw [e0,decide_eq_true hc,Bool.true_and] at this
     rw [List.all_map]
     exact this
  ·rw [decide_eq_false hc]
   have:=kQ H Same.rfl'
   rw [e0,decide_eq_false hc,Bool.false_and] at this
   exact iteF this
theorem scCheckW:FnScope ["wages", "bridges"] ["wages", "bridges"] (q03 q41):=⟨rfl,rfl,rfl,by decide +kernel,rfl,by decide +kernel,by decide +kernel⟩
theorem scCheckC:FnScope ["crews"] ["crews"] (q03 q45):=⟨rfl,rfl,rfl,by decide +kernel,rfl,by decide +kernel,by decide +kernel⟩
inductive spBForI  (vs:List V) (H:Hp) (Q:VK) (E:XK):Prop
 | mk (lw:Addr) (ws:List Int) (x:Int):(vs=[.int x,.ref lw])→(LI H lw ws)→(ws.length≤60)→(∀ (H':Hp) (d:Addr),Same H H'→H d=none→LI H' d (rowOf ws x)→Q (.ref d) H')→spBForI  vs H Q E
def spBFor  : Sp:=fun vs H Q E=>spBForI  vs H Q E
theorem scBFor:FnScope ["wage", "wages"] ["wage", "wages"] (q03 z0d):=⟨rfl,rfl,rfl,by decide +kernel,rfl,by decide +kernel,by decide +kernel⟩
theorem ok_bfor {f:Addr} {fd:FuncData} (T:Txt K mg CE CS CQ CT) (F:Fun K "bridges_for" "bridges_for" z0d f fd):FnOk P w K mg base CX0 1 f fd ["wage", "wages"] spBFor:=by
 refine F.ok scBFor (fun vs H Q E h=>?_) (fun cdv A outer s H vs Q E hr h=>?_)
 ·obtain ⟨lw,ws,x,rfl,_⟩:=h
  rfl
 ·obtain ⟨lw,ws,x,rfl,hl,hn,kQ⟩:=h
  have nd2:((["bridge", "own"]:List Str)++(["wage"]:List Str)).Nodup:=by decide +kernel
  refine ⟨_,q06 (q0i (q30 (own:=["bridge", "own"]) (caps:=["wage"]) (cs:=[0]) (sc:=q03 z0d) ⟨rfl,rfl,by decide +kernel,by decide +kernel,by decide +kernel,by decide +kernel,rfl⟩ rfl
    (pi_enum (by rfl) T.enum (q00 (pv 1) q04)) (fun _ _ _ _ _=>q8c (n:=2) rfl (q1w (q0k (i:=0) nd2 rfl (Or.inl rfl) (.inr rfl)) (q1w (q0k (i:=1) nd2 rfl (Or.inl rfl) (.inr rfl)) q5l)))
    (fun _ _ _ _ _=>pf_one (q0p q2z (pv 1) (pv 2) (q0u _))) (fun _ _ _ _ _=>pv 0))),?_⟩
  try dsimp only [cx_of,cx_nox,cx_comp]
  refine ⟨_,rfl,lw,_,rfl,SqL.of hl,fun D hD=>q4h (n:=ws.length) hD (fun i=>((allB i).filter fun b=>decide (wg ws b=x)).map V.int) rfl (fun i hi=>?_) (fun i H4 hi sm hD4=>?_) (fun H4 sm hD4=>?_)⟩
  ·rw [List.length_map]
   have:=List.length_filter_le (fun b=>decide (wg ws b=x)) (allB i)
   rw [q1n] at this
   exact q0c (by omega)
  ·have q4:=sm _ _ hl
   have e1:(ws.map V.int)[i]?=some (.int ws[i]):=by rw [List.getElem?_map,List.getElem?_eq_getElem hi];rfl
   refine ⟨⟨_,_,SqL.of q4,e1⟩,fun K1 K2 k1 k2 y H' yy=>?_⟩
   obtain ⟨t,rfl,htn,e⟩:=yy
   rw [e _ _ (SqL.of q4) e1]
   have s5:Same H4 (upd H4 t (.tup [.int i,.int ws[i]])):=Same.rfl'.new htn
   refine ⟨t,_,rfl,SqT.of q01,rfl,_,_,rfl,_,_,rfl,rfl,rfl,?_⟩
   refine ⟨_,rfl,_,rfl,rfl,_,rfl,?_⟩
   rw [q25]
   have ew:=wg_nat hi
   by_cases h:ws[i]=x
   ·rw [decide_eq_true h]
    refine iteT ⟨_,rfl,k1 _ _ s5 ?_⟩
    rw [q4d,List.filter_append,List.map_append]
    congr 1
    rw [List.filter_cons,if_pos (by rw [ew];exact decide_eq_true h)]
    rfl
   ·rw [decide_eq_false h]
    refine iteF (k2 _ s5 ?_)
    rw [q4d,List.filter_append,List.filter_cons,if_neg (by rw [ew,decide_eq_false h];decide)]
    simp
  ·exact ⟨⟨_,SqL.of (sm _ _ hl),by rw [List.length_map];exact Nat.le_refl _⟩,kQ H4 D sm hD hD4⟩
inductive spSumOfI  (vs:List V) (H:Hp) (Q:VK) (E:XK):Prop
 | mk (l lw:Addr) (xs:List V) (nss:List (List Int)) (ws:List Int):(vs=[.ref l,.ref lw])→(H l=some (.lst xs))→(LS H xs nss)→(nss.flatten.length≤1000)→(LI H lw ws)→((∀ b∈nss.flatten,0≤b∧b < (ws.length:Int)))→(∀ H',Same H H'→Q (.int ((nss.flatten.map (wg ws)).sum)) H')→spSumOfI  vs H Q E
def spSumOf  : Sp:=fun vs H Q E=>spSumOfI  vs H Q E
theorem scSumOf:FnScope ["dealing", "wages"] ["dealing", "wages"] (q03 q5s):=⟨rfl,rfl,rfl,by decide +kernel,rfl,by decide +kernel,by decide +kernel⟩
theorem ok_sumOf {f f1:Addr} {fd fd1:FuncData} (T:Txt K mg CE CS CQ CT) (F:Fun K "sum_of" "sum_of" q5s f fd) (G1:FnOk P w K mg base CX0 1 f1 fd1 ["lists"] B5.spTogether) (b1:Binds K fd1 ["lists"] []) (m1:mg "put_together" = some (.ref f1)) (kp1:W.keepIn K (.ref f1)=true) :
  FnOk P w K mg base CX0 2 f fd ["dealing", "wages"] spSumOf:=by
 refine F.ok scSumOf (fun vs H Q E h=>?_) (fun cdv A outer s H vs Q E hr h=>?_)
 ·obtain ⟨l,lw,xs,nss,ws,rfl,_⟩:=h
  rfl
 ·obtain ⟨l,lw,xs,nss,ws,rfl,hl,hx,hn,hw,hb,kQ⟩:=h
  have nd2:((["bridge"]:List Str)++(["wages"]:List Str)).Nodup:=by decide +kernel
  refine ⟨_,q06 (q0i (q0b (c_sum rfl) (by rfl) T.sum boot_sum (q00 (q30 (own:=["bridge"]) (caps:=["wages"]) (cs:=[1]) (sc:=q03 q5s) ⟨rfl,rfl,by decide +kernel,by decide +kernel,by decide +kernel,by decide +kernel,rfl⟩ rfl
   (q19 (q0h G1 hr (by rfl) m1 kp1 b1 .nil q1a (q00 (pv 0) q04))) (fun _ _ _ _ _=>q0k (i:=0) nd2 rfl (Or.inl rfl) (.inr rfl)) (fun _ _ _ _ _=>q3c) (fun _ _ _ _ _=>q0n q0g (pv 1) (pv 0) (fun _ _=>rfl))) q04))),?_⟩
  try dsimp only [cx_of,cx_nox,cx_comp]
  refine ⟨_,rfl,l,xs,nss,rfl,hl,hx,hn,fun H1 m s1 _ hm=>⟨m,rfl,⟨_,SqL.of hm⟩,fun D hD=>q5p (n:=nss.flatten.length) hD (fun i=>(nss.flatten.take i).map fun b=>V.int (wg ws b)) rfl (fun i hi=>?_) (fun i H2 hi sm hD2=>?_) (fun H2 sm hD2=>?_)⟩⟩
  ·rw [List.length_map,List.length_take]
   exact q0c (by omega)
  ·have q2:=sm _ _ hm
   have e1:(nss.flatten.map V.int)[i]?=some (.int nss.flatten[i]):=by rw [List.getElem?_map,List.getElem?_eq_getElem hi];rfl
   refine ⟨⟨_,_,SqL.of q2,e1⟩,fun K1 k1 x H' y=>?_⟩
   obtain ⟨rfl,e⟩:=y
   have ex:=e _ (SqL.of q2)
   rw [e1] at ex
   cases ex
   obtain ⟨b0,b2⟩:=hb _ (List.getElem_mem hi)
   obtain ⟨j,hj⟩:∃ j:Nat,nss.flatten[i]=(j:Int):=⟨nss.flatten[i].toNat,by omega⟩
   have hjl:j < ws.length:=by omega
   refine ⟨rfl,_,rfl,_,rfl,lw,_,_,.int (wg ws nss.flatten[i]),rfl,rfl,SqL.of (sm _ _ (s1 _ _ hw)),?_,k1 _ _ Same.rfl' (by rw [q4g (List.getElem?_eq_getElem hi)])⟩
   rw [hj,wg_nat hjl]
   exact q09 (by rw [List.getElem?_map,List.getElem?_eq_getElem hjl];rfl)
  ·refine ⟨⟨_,SqL.of (sm _ _ hm),by rw [List.length_map];exact Nat.le_refl _⟩,D,nss.flatten.map (wg ws),rfl,SqL.of ?_,kQ H2 (s1.tr sm)⟩
   rw [hD2,List.take_length,List.map_map]
   rfl
structure Told (H H':Hp) (ps:PP) (q:Int) (cr:Nat) (ws os:List Int) (s:Int) (l lz:Addr) (as:List Addr) (ads:List (Addr × List Addr)) (shown:List (List (List Int))) (ts:List V) (cof:Int→Option Nat) (bs:List Int) (huds:List (List Int)):Prop where
 hl:H' l=some (.lst (as.map V.ref))
 ls:LS H' (as.map V.ref) (lists cof cr bs)
 hz:H' lz=some (.lst ts)
 tl:ts.length=os.length
 tk:∀ (k:Nat) x p,os[k]?=some x→ads[k]?=some p→∃ T,ts[k]?=some (.ref T)∧H' T=some (.tup [.int x,.ref p.1])
 had:Ads H' ads shown
 nd:(l::lz::as++q3m ads).Nodup
 fr:∀ b∈l::lz::as++q3m ads,H b=none
 sl:shown.length=os.length
 lev:∀ k sk,shown[k]?=some sk→∃ cof',DealL (eb ps) cr (WP ps q cr) (q22 ws (os.take (k+1))).flatten cof' sk
 deal:DealL (eb ps) cr (WP ps q cr) (q22 ws os).flatten cof huds
 bm:∀ b,b∈bs↔(cof b).isSome=true
 bo:bs.Pairwise (·≤·)
 bn:bs.Nodup
 sum:s=((lists cof cr bs).flatten.map (wg ws)).sum
inductive spDealtWI (CT:Addr) (vs:List V) (H:Hp) (Q:VK) (E:XK):Prop
 | mk (p l2 lw lo:Addr) (q:Int) (ys:List V) (ps:PP) (cr:Nat) (ws os:List Int):(vs=[.ref p,.int (cr:Int),.ref lw,.ref lo])→(TownAt CT H p l2 q ys)→(PV H ys ps)→(fits q ps=true)→(cr≤100)→(LI H lw ws)→(ws.length=ps.length)→(LI H lo os)→(os.Nodup)→(os.length≤60)→(∀ (H':Hp) (t:Addr) (s:Int) (l lz:Addr) (as:List Addr) (ads:List (Addr × List Addr)) (shown:List (List (List Int))) (ts:List V) (cof:Int→Option Nat) (bs:List Int) (huds:List (List Int)),Same H H'→H' t=some (.tup [.int s,.ref l,.ref lz])→Told H H' ps q cr ws os s l lz as ads shown ts cof bs huds→Q (.ref t) H')→spDealtWI CT vs H Q E
def q7j (CT:Addr):Sp:=fun vs H Q E=>spDealtWI CT vs H Q E
theorem scDealtW:FnScope ["town", "crews", "wages", "order", "told"] ["town", "crews", "wages", "order"] (q03 q3z):=⟨rfl,rfl,rfl,by decide +kernel,rfl,by decide +kernel,by decide +kernel⟩
theorem ok_dealtW {f fR fB fS:Addr} {fd dR dB dS:FuncData} (T:Txt K mg CE CS CQ CT) (F:Fun K "dealt_by_wages" "dealt_by_wages" q3z f fd)
  (GR:Cal P w K mg base 4 "deal_by_rows" fR dR ["town", "crews", "rows"] (spRows CT)) (GB:Cal P w K mg base 1 "bridges_for" fB dB ["wage", "wages"] spBFor) (GS:Cal P w K mg base 2 "sum_of" fS dS ["dealing", "wages"] spSumOf) :
  FnOk P w K mg base CX0 5 f fd ["town", "crews", "wages", "order"] (q7j CT):=by
 refine F.ok scDealtW (fun vs H Q E h=>?_) (fun cdv A outer s H vs Q E hr h=>?_)
 ·obtain ⟨p,l2,lw,lo,q,ys,ps,cr,ws,os,rfl,_⟩:=h
  rfl
 ·obtain ⟨p,l2,lw,lo,q,ys,ps,cr,ws,os,rfl,ht,hp,hft,hcr,hw,hwl,ho,hon,ho60,kQ⟩:=h
  have r1:=hr.mono (show 1≤4 by omega)
  have r2:=hr.mono (show 2≤4 by omega)
  have nd2:((["wage"]:List Str)++(["wages"]:List Str)).Nodup:=by decide +kernel
  refine ⟨_,q02 (q0a (i:=4) scDealtW.nd rfl (Or.inl rfl) (q0h GR.ok hr (by rfl) GR.nm GR.kp GR.bi .nil q1a (q00 (pv 0) (q00 (pv 1) (q00 (q30 (own:=["wage"]) (caps:=["wages"]) (cs:=[2]) (sc:=q03 q3z) ⟨rfl,rfl,by decide +kernel,by decide +kernel,by decide +kernel,by decide +kernel,rfl⟩ rfl
    (q19 (pv 3)) (fun _ _ _ _ _=>q0k (i:=0) nd2 rfl (Or.inl rfl) (.inr rfl)) (fun _ _ _ _ _=>q3c) (fun _ _ _ _ _=>q0h GB.ok r1 (by rfl) GB.nm GB.kp GB.bi .nil q1a (q00 (pv 0) (q00 (pv 1) q04)))) q04)))))
   (q06 (q0i (q1u (q00 (q0h GS.ok r2 (by rfl) GS.nm GS.kp GS.bi .nil q1a (q00 (q0n q18 (pv 4) q07 (fun _ _=>rfl)) (q00 (pv 2) q04)))
    (q00 (q0n q18 (pv 4) q07 (fun _ _=>rfl)) (q00 (pe_listZip rfl (by rfl) T.list (by rfl) T.zip (q00 (pv 3) (q00 (q0n q18 (pv 4) q07 (fun _ _=>rfl)) q04))) q04)))))),?_⟩
  try dsimp only [cx_of,cx_nox,cx_comp]
  obtain ⟨⟨hq1,hq2⟩,h60,hok⟩:=q1z hft
  refine ⟨_,rfl,_,rfl,_,rfl,lo,rfl,⟨_,SqL.of ho⟩,fun D hD=>?_⟩
  refine q4c (n:=os.length) (fun i ys H2=>Same H H2∧H2 D=some (.lst ys)∧All2 (fun y g=>∃ a,y=V.ref a∧a≠D∧LI H2 a g) ys (q22 ws (os.take i))) ⟨Same.rfl'.new hD,q01,.nil⟩ (fun i ys H2 hi hv=>?_) (fun i ys H2 hi hv=>?_) (fun xr H2 hv=>?_)
  ·have:=hv.2.2.length
   unfold q22 at this
   rw [List.length_map,List.length_take] at this
   exact q0c (by omega)
  ·obtain ⟨sm,hy,hA⟩:=hv
   have q1:(os.map V.int)[i]?=some (.int os[i]):=by rw [List.getElem?_map,List.getElem?_eq_getElem hi];rfl
   refine ⟨⟨_,_,SqL.of (sm _ _ ho),q1⟩,fun K1 k1 x H' y=>?_⟩
   obtain ⟨rfl,e⟩:=y
   have ex:=e _ (SqL.of (sm _ _ ho))
   rw [q1] at ex
   cases ex
   refine ⟨rfl,_,rfl,_,rfl,lw,ws,os[i],rfl,sm _ _ hw,by omega,fun H3 d s3 hd hd3=>?_⟩
   have nd:d≠D:=fun z=>by rw [z,hy] at hd;cases hd
   refine k1 _ _ (s3 _ _ hy) ⟨(sm.tr s3).new hD,q01,?_⟩
   rw [List.take_add_one,List.getElem?_eq_getElem hi]
   show All2 _ _ ((os.take i++[os[i]]).map (rowOf ws))
   rw [List.map_append]
   exact q35 (All2.imp (fun y g ⟨c,e1,e2,e3⟩=>⟨c,e1,e2,(q08 e2).trans (s3 _ _ e3)⟩) hA) ⟨d,rfl,nd,(q08 nd).trans hd3⟩
  obtain ⟨s2,hD2,hA⟩:=hv
  rw [List.take_length] at hA
  have hxr:LS H2 xr (q22 ws os):=All2.imp (fun y g ⟨c,e1,_,e3⟩=>⟨c,e1,e3⟩) hA
  refine ⟨⟨_,SqL.of (s2 _ _ ho),by rw [List.length_map];exact Nat.le_refl _⟩,?_⟩
  refine ⟨p,l2,D,q,ys,xr,ps,cr,q22 ws os,rfl,ht.same s2,hp.same s2,hft,hcr,hD2,hxr,z0e hon,fun b hb=>by rw [← hwl];exact (mem_rows.mp hb).1,by unfold q22;rw [List.length_map];exact ho60,fun Hm H3 t l sh as ads shown bs cof huds s3 hsh had hfn hff fsh hsn hsl hsk M hl0 ht3 hdr hbm hbo hbn=>?_⟩
  have nk:∀ k,(os.take k).Nodup:=fun k=>hon.sublist (List.take_sublist _ _)
  have D1:=q7p hok hdr (z0e hon) fun b hb=>by rw [← hwl];exact (mem_rows.mp hb).1
  have hfm:=q3o hbm D1.lt
  have hfl60:(lists cof cr bs).flatten.length≤60:=by
   have:=q1c _ (allB ps.length) (q1k hbn cr) fun b h=>by
    obtain ⟨k,hk⟩:=Option.isSome_iff_exists.mp ((hfm b).mp h)
    rw [mem_allB,← hwl]
    exact (mem_rows.mp (D1.rng b k hk)).1
   rw [q1n] at this
   omega
  have s03:=s2.tr (s3.tr M.same)
  refine ⟨_,rfl,t,_,_,_,rfl,rfl,SqT.of ht3,q09 (j:=0) rfl,_,rfl,l,lw,_,lists cof cr bs,ws,rfl,M.hl,M.out,by omega,s03 _ _ hw,fun b hb=>?_,fun H4 s4=>?_⟩
  ·obtain ⟨k,hk⟩:=Option.isSome_iff_exists.mp ((hfm b).mp hb)
   exact (mem_rows.mp (D1.rng b k hk)).1
  have hsl2:ads.length=os.length:=by
   rw [had.length,hsl]
   unfold q22
   rw [List.length_map]
  refine ⟨_,rfl,t,_,_,_,rfl,rfl,SqT.of (s4 _ _ ht3),q09 (j:=0) rfl,_,rfl,_,rfl,t,_,_,_,rfl,rfl,SqT.of (s4 _ _ ht3),q09 (j:=1) rfl,lo,sh,_,_,rfl,SqL.of ((s03.tr s4) _ _ ho),SqL.of (s4 _ _ (M.same _ _ hsh)),by rw [List.length_map,List.length_map,hsl2],fun H5 ts lz s5 zp hlz5 hlz4=>?_⟩
  refine ⟨by show 3≤sizeLine;decide,fun t6 ht6=>?_⟩
  have u5:=Same.rfl'.new hlz5 (o:=.lst ts)
  have hlzv:(upd H5 lz (.lst ts)) lz=some (.lst ts):=q01
  generalize upd H5 lz (.lst ts)=H6 at u5 hlzv ht6
  have u6:=Same.rfl'.new ht6 (o:=.tup [.int (((lists cof cr bs).flatten.map (wg ws)).sum),.ref l,.ref lz])
  have ht6v:(upd H6 t6 (.tup [.int (((lists cof cr bs).flatten.map (wg ws)).sum),.ref l,.ref lz])) t6=some (.tup [.int (((lists cof cr bs).flatten.map (wg ws)).sum),.ref l,.ref lz]):=q01
  generalize upd H6 t6 (.tup [.int (((lists cof cr bs).flatten.map (wg ws)).sum),.ref l,.ref lz])=H7 at u6 ht6v
  have s37:=s4.tr (s5.tr (u5.tr u6))
  have s07:=s03.tr s37
  have hlzn:H lz=none:=(s03.tr s4).free hlz4
  have nlz:∀ b o,H4 b=some o→b≠lz:=fun b o e z=>by rw [z,hlz4] at e;cases e
  have hfl:H l=none:=s2.free (s3.free hl0)
  refine kQ H7 t6 _ l lz as ads shown ts cof bs huds s07 ht6v ⟨s37 _ _ M.hl,M.out.same s37,u6 _ _ hlzv,by rw [zp.1,List.length_map],fun k x pr hk1 hk2=>?_,had.keep (KL.of (M.same.tr s37)),?_,fun b hb=>?_,by rw [hsl];unfold q22;rw [List.length_map],fun k sk e=>?_,hdr,hbm,hbo,hbn,rfl⟩
  ·obtain ⟨TT,e1,_,e3⟩:=zp.2 k (.int x) (.ref pr.1) (by rw [List.getElem?_map,hk1];rfl) (by rw [List.getElem?_map,hk2];rfl)
   exact ⟨TT,e1,u6 _ _ (u5 _ _ e3)⟩
  ·have hMd:∀ b∈q3m ads,∃ vs,Hm b=some (.lst vs):=fun b hb=>had.some hb
   have c1:∀ b∈as,Hm b=none∧b≠l:=M.fr
   refine List.nodup_cons.mpr ⟨fun z=>?_,List.nodup_cons.mpr ⟨fun z=>?_,List.nodup_append.mpr ⟨M.nd,hfn,fun x hx y hy e=>?_⟩⟩⟩
   ·rcases List.mem_cons.mp z with z | z
    ·exact nlz l _ (s4 _ _ M.hl) z
    ·rcases List.mem_append.mp z with z | z
     ·exact (c1 l z).2 rfl
     ·obtain ⟨vs,hv⟩:=hMd l z
      rw [hl0] at hv
      cases hv
   ·rcases List.mem_append.mp z with z | z
    ·obtain ⟨k,hk⟩:=List.mem_iff_getElem?.mp z
     have hkl:k < (lists cof cr bs).length:=by rw [← M.len];exact (List.getElem?_eq_some_iff.mp hk).1
     exact nlz lz _ (s4 _ _ (M.ls k lz _ hk (List.getElem?_eq_getElem hkl))) rfl
    ·obtain ⟨vs,hv⟩:=hMd lz z
     exact nlz lz _ (s4 _ _ (M.same _ _ hv)) rfl
   ·subst e
    obtain ⟨vs,hv⟩:=hMd x hy
    rw [(c1 x hx).1] at hv
    cases hv
  ·rcases List.mem_cons.mp hb with rfl | hb
   ·exact hfl
   ·rcases List.mem_cons.mp hb with rfl | hb
    ·exact hlzn
    ·rcases List.mem_append.mp hb with hb | hb
     ·exact s2.free (s3.free (M.fr b hb).1)
     ·exact s2.free (hff b hb)
  ·obtain ⟨cof',h'⟩:=hsk k sk e
   rw [rows_take] at h'
   exact ⟨cof',h'⟩
end
end K28
namespace K28
open PySem L2 XM GM
theorem q2x {ws:List Int} {c:Nat} (h:q0s ws c=true):ws.length=c∧∀ x∈ws,0≤x∧x≤10 ^ 60:=by
 obtain ⟨h1,h2⟩:=(Bool.and_eq_true _ _).mp h
 refine ⟨of_decide_eq_true h1,fun x hx=>?_⟩
 obtain ⟨h3,h4⟩:=(Bool.and_eq_true _ _).mp (List.all_eq_true.mp h2 x hx)
 exact ⟨of_decide_eq_true h3,of_decide_eq_true h4⟩
section
variable {P:Program} {w:World} {K:W.Frag} {mg:Str→Option Value} {base:Heap} {CE CS CQ CT:Addr}
theorem scDearest:FnScope ["town", "crews", "wages"] ["town", "crews", "wages"] (q03 q31):=⟨rfl,rfl,rfl,by decide +kernel,rfl,by decide +kernel,by decide +kernel⟩
end
end K28
namespace K28
open PySem L2 XM GM
section
variable {P:Program} {w:World} {K:W.Frag} {mg:Str→Option Value} {base:Heap} {CE CS CQ CT:Addr}
theorem scJoining:FnScope ["town", "crews"] ["town", "crews"] (q03 q2w):=⟨rfl,rfl,rfl,by decide +kernel,rfl,by decide +kernel,by decide +kernel⟩
theorem scCheapest:FnScope ["town", "crews", "wages", "told"] ["town", "crews", "wages"] (q03 q2e):=⟨rfl,rfl,rfl,by decide +kernel,rfl,by decide +kernel,by decide +kernel⟩
end
end K28
namespace K28
open PySem L2 XM GM
theorem pair_ok {q o r:Int} (h1:0≤o) (h2:o < q) (h3:0≤r) (h4:r < q - 1):q0z q (o,(o+1+r) % q)=true:=by
 have e1:=Int.emod_nonneg (o+1+r) (b:=q) (by omega)
 have e2:=Int.emod_lt_of_pos (o+1+r) (b:=q) (by omega)
 have e3:o≠(o+1+r) % q:=fun z=>by
  by_cases h:o+1+r < q
  ·rw [Int.emod_eq_of_lt (by omega) h] at z;omega
  ·have:(o+1+r) % q=o+1+r - q:=by
    rw [← Int.sub_emod_right]
    exact Int.emod_eq_of_lt (by omega) (by omega)
   omega
 unfold q0z
 simp [h1,h2,e1,e2,e3]
theorem set_mem {cs:List Int} {i:Nat} {x c:Int} (h:c∈cs.set i x):c∈cs∨c=x:=by
 rcases List.mem_or_eq_of_mem_set h with h | h
 ·exact .inl h
 ·exact .inr h
section
variable {P:Program} {w:World} {K:W.Frag} {mg:Str→Option Value} {base:Heap} {CE CS CQ CT:Addr}
inductive spNumbersI (K:W.Frag) (vs:List V) (H:Hp) (Q:VK) (E:XK):Prop
 | mk (a:Addr) (ns:List Int) (m:Nat):(vs=[.ref a,.int (m:Int)])→(SqL K H a (ns.map V.int))→(ns.length≤63)→(1≤m)→(m≤63)→(∀ (H':Hp) (d:Addr) (cs:List Int),Same H H'→H d=none→LI H' d cs→cs.length=m→(∀ c∈cs,0≤c∧c < 1000000)→Q (.ref d) H')→spNumbersI K vs H Q E
def q8q (K:W.Frag):Sp:=fun vs H Q E=>spNumbersI K vs H Q E
theorem scNumbers:FnScope ["script", "many", "found", "step", "k"] ["script", "many"] (q03 q3j):=⟨rfl,rfl,rfl,by decide +kernel,rfl,by decide +kernel,by decide +kernel⟩
theorem ok_Numbers {f:Addr} {fd:FuncData} (T:Txt K mg CE CS CQ CT) (F:Fun K "_law_numbers" "_law_numbers" q3j f fd):FnOk P w K mg base CX0 1 f fd ["script", "many"] (q8q K):=by
 refine F.ok scNumbers (fun vs H Q E h=>?_) (fun cdv A outer s H vs Q E hr h=>?_)
 ·obtain ⟨a,ns,m,rfl,_⟩:=h
  rfl
 ·obtain ⟨a,ns,m,rfl,hS,hn,hm1,hm2,kQ⟩:=h
  refine ⟨_,q02 (q0a (i:=2) scNumbers.nd rfl (Or.inl rfl) (q1q q04))
   (q02 (q0a (i:=3) scNumbers.nd rfl (Or.inl rfl) q07)
   (q02 (q3r (q11 (q0p op_gt (q0b q48 (by rfl) T.len PySem.boot_len (q00 (pv 0) q04)) q07 (q0u _)) (q06 (q0a (i:=3) scNumbers.nd rfl (Or.inl rfl) (q0o q2c q07 (q0o q13 (q0n q0g (pv 0) q07 (fun _ _=>rfl)) q07)))) q0f))
   (q02 (q21 PassesOwn.never rfl (q1i (by rfl) T.range (q00 (pv 1) q04)) (q0k (i:=4) scNumbers.nd rfl (Or.inl rfl))
    (q02 (q0a (i:=3) scNumbers.nd rfl (Or.inl rfl) (q0o q13 (q0o op_mul (pv 3) q07) q07))
    (q06 (q0q (q3n PySem.F.plainAttrs_list PySem.F.slot_list_append PySem.F.type_list_append q15 (pv 2) (q00 (q0o q13 (q0o op_fdiv (pv 3) q07) q07) q04))))))
   (q02 (q21 PassesOwn.never rfl (q1i (by rfl) T.range (q00 (q0b q48 (by rfl) T.len PySem.boot_len (q00 (pv 0) q04)) q04)) (q0k (i:=4) scNumbers.nd rfl (Or.inl rfl))
    (q06 (q6w (q0o q13 (q0o q2c (q0n q0g (pv 2) (q0o q13 (pv 4) (pv 1)) (fun _ _=>rfl)) (q0n q0g (pv 0) (pv 4) (fun _ _=>rfl))) q07) (q9d (pv 2) (q0o q13 (pv 4) (pv 1)) q4a))))
   (q06 (q0i (pv 2))))))),?_⟩
  try dsimp only [cx_of,cx_nox,cx_comp]
  refine ⟨by show 0≤sizeLine;decide,fun d hd=>?_⟩
  have s0:=Same.rfl'.new hd (o:=.lst [])
  have hd0:LI (upd H d (.lst [])) d []:=q01
  generalize upd H d (.lst [])=H0 at s0 hd0
  refine ⟨fun σ' H'=>∃ st:Int,σ'=[some (.ref a),some (.int (m:Int)),some (.ref d),some (.int st),none]∧H'=H0∧0≤st∧st < 2147483648,?_,?_⟩
  rotate_left
  ·refine ⟨_,rfl,a,_,rfl,.inl (s0.seq hS),_,_,rfl,rfl,_,rfl,?_⟩
   rw [List.length_map]
   by_cases h:0 < ns.length
   ·rw [decide_eq_true (show (0:Int) < (ns.length:Int) by omega)]
    refine iteT ⟨_,rfl,a,_,_,.int ns[0],rfl,rfl,s0.seq hS,q09 (j:=0) (by rw [List.getElem?_map,List.getElem?_eq_getElem h];rfl),_,_,rfl,rfl,(by show (0:Int) < 2147483646;decide),_,_,rfl,rfl,1+ns[0] % 2147483646,rfl,rfl,by omega,by omega⟩
   ·rw [decide_eq_false (show ¬ (0:Int) < (ns.length:Int) by omega)]
    exact iteF ⟨1,rfl,rfl,by omega,by omega⟩
  rintro σ1 H1' ⟨st,rfl,e1,hst0,hst1⟩
  rw [e1]
  clear e1 H1'
  refine ⟨_,rfl,(m:Int),rfl,by omega,by omega,?_⟩
  refine q2n (lo:=(0:Int)) (n:=((m:Nat):Int).toNat) (fun i σ H2=>∃ (cs:List Int) (st:Int) (u:Option V),Same H H2∧LI H2 d cs∧cs.length=i∧(∀ c∈cs,0≤c∧c < 1000000)∧(0≤st∧st < 2147483648)∧σ=[some (.ref a),some (.int (m:Int)),some (.ref d),some (.int st),u]) ⟨[],st,_,s0,hd0,rfl,fun c hc=>(by cases hc),⟨hst0,hst1⟩,rfl⟩ ?_ ?_
  ·rintro i σ H2 hi ⟨cs,st,u,s2,hd2,hcl,hcb,⟨h0,h1⟩,rfl⟩
   refine ⟨_,rfl,_,_,rfl,rfl,.inl ⟨by omega,by omega⟩,_,_,rfl,rfl,(by show (0:Int) < 2147483647;decide),?_⟩
   obtain ⟨x,hx⟩:∃ x:Int,x=st*48271 % 2147483647:=⟨_,rfl⟩
   have x0:0≤x∧x < 2147483647:=by omega
   show q7u 3 (V.int (st*48271 % 2147483647)) _ _ _
   rw [← hx]
   refine ⟨_,rfl,.inl ⟨rfl,_,SqL.of hd2⟩,_,rfl,_,_,rfl,rfl,⟨by decide,by decide⟩,_,_,rfl,rfl,(by show (0:Int) < 1000000;decide),d,_,_,rfl,rfl,hd2,by rw [List.length_map];exact q0c (by omega),cs++[x / 16 % 1000000],x,_,fun b o e=>by rw [q08 (q05 e hd)];exact s2 _ _ e,?_,by rw [List.length_append,hcl];rfl,fun c hc=>?_,⟨by omega,by omega⟩,rfl⟩
   ·rw [LI,q01,List.map_append]
    rfl
   ·rcases List.mem_append.mp hc with h | h
    ·exact hcb c h
    ·rw [List.mem_singleton.mp h]
     omega
  ·rintro σ H2 ⟨cs,st,u,s2,hd2,hcl,hcb,_,rfl⟩
   rw [Int.toNat_natCast] at hcl
   refine ⟨_,rfl,a,_,rfl,.inl (s2.seq hS),(ns.length:Int),by rw [List.length_map],by omega,by omega,?_⟩
   have hm0:(0:Int) < (m:Int):=by omega
   refine q2n (lo:=(0:Int)) (n:=((ns.length:Nat):Int).toNat) (fun i σ H2=>∃ (cs:List Int) (u:Option V),Same H H2∧LI H2 d cs∧cs.length=m∧(∀ c∈cs,0≤c∧c < 1000000)∧σ=[some (.ref a),some (.int (m:Int)),some (.ref d),some (.int st),u]) ⟨cs,_,s2,hd2,hcl,hcb,rfl⟩ ?_ ?_
   ·clear hd2 hcl hcb s2 H2 cs
    rintro i σ H2 hi ⟨cs,u,s2,hd2,hcl,hcb,rfl⟩
    have hil:i < ns.length:=by omega
    have him:i % m < cs.length:=by rw [hcl];exact Nat.mod_lt _ (by omega)
    rw [show (0:Int)+(i:Int)=(i:Int) by omega]
    have em:(i:Int) % (m:Int)=((i % m:Nat):Int):=(Int.natCast_emod i m).symm
    have g1:atI (cs.map V.int) ((i:Int) % (m:Int))=some (.int cs[i % m]):=by
     rw [em]
     exact q09 (by rw [List.getElem?_map,List.getElem?_eq_getElem him];rfl)
    have g2:atI (ns.map V.int) (i:Int)=some (.int ns[i]):=q09 (by rw [List.getElem?_map,List.getElem?_eq_getElem hil];rfl)
    have g3:ixN (cs.map V.int).length ((i:Int) % (m:Int))=some (i % m):=by
     rw [em]
     exact q6v (by rw [List.length_map];exact him)
    refine ⟨_,rfl,_,rfl,_,rfl,_,_,rfl,rfl,hm0,d,_,_,.int cs[i % m],rfl,rfl,SqL.of hd2,g1,_,rfl,_,rfl,a,_,_,.int ns[i],rfl,rfl,s2.seq hS,g2,_,_,rfl,rfl,_,_,rfl,rfl,(by show (0:Int) < 1000000;decide),?_⟩
    refine ⟨_,rfl,_,rfl,_,rfl,_,_,rfl,rfl,hm0,d,_,_,i % m,rfl,rfl,hd2,g3,?_⟩
    refine ⟨cs.set (i % m) ((cs[i % m]+ns[i]) % (1000000)),_,fun b o e=>by rw [q08 (q05 e hd)];exact s2 _ _ e,?_,by rw [List.length_set];exact hcl,fun c hc=>?_,rfl⟩
    ·rw [LI,q01,List.map_set]
    ·rcases set_mem hc with h | h
     ·exact hcb c h
     ·rw [h]
      omega
   ·rintro σ H2 ⟨cs,u,s2,hd2,hcl,hcb,rfl⟩
    exact ⟨_,rfl,kQ H2 d cs s2 hd hd2 hcl hcb⟩
theorem lim60:(0:Int) < 10 ^ (60:Int).toNat+1:=by decide +kernel
inductive spLargeI (K:W.Frag) (vs:List V) (H:Hp) (Q:VK) (E:XK):Prop
 | mk (a:Addr) (ns:List Int) (m:Nat):(vs=[.ref a,.int (m:Int)])→(SqL K H a (ns.map V.int))→(ns.length≤63)→(1≤m)→(m≤63)→(∀ (H':Hp) (d:Addr) (cs:List Int),Same H H'→H d=none→LI H' d cs→cs.length=m→(∀ c∈cs,0≤c∧c≤10 ^ 60)→Q (.ref d) H')→spLargeI K vs H Q E
def spLarge (K:W.Frag):Sp:=fun vs H Q E=>spLargeI K vs H Q E
theorem scLarge:FnScope ["script", "many", "found", "step", "k"] ["script", "many"] (q03 q6h):=⟨rfl,rfl,rfl,by decide +kernel,rfl,by decide +kernel,by decide +kernel⟩
theorem ok_Large {f:Addr} {fd:FuncData} (T:Txt K mg CE CS CQ CT) (F:Fun K "_law_large" "_law_large" q6h f fd):FnOk P w K mg base CX0 1 f fd ["script", "many"] (spLarge K):=by
 refine F.ok scLarge (fun vs H Q E h=>?_) (fun cdv A outer s H vs Q E hr h=>?_)
 ·obtain ⟨a,ns,m,rfl,_⟩:=h
  rfl
 ·obtain ⟨a,ns,m,rfl,hS,hn,hm1,hm2,kQ⟩:=h
  refine ⟨_,q02 (q0a (i:=2) scLarge.nd rfl (Or.inl rfl) (q1q q04))
   (q02 (q0a (i:=3) scLarge.nd rfl (Or.inl rfl) q07)
   (q02 (q3r (q11 (q0p op_gt (q0b q48 (by rfl) T.len PySem.boot_len (q00 (pv 0) q04)) q07 (q0u _)) (q06 (q0a (i:=3) scLarge.nd rfl (Or.inl rfl) (q0o q2c q07 (q0o q13 (q0n q0g (pv 0) q07 (fun _ _=>rfl)) q07)))) q0f))
   (q02 (q21 PassesOwn.never rfl (q1i (by rfl) T.range (q00 (pv 1) q04)) (q0k (i:=4) scLarge.nd rfl (Or.inl rfl))
    (q02 (q0a (i:=3) scLarge.nd rfl (Or.inl rfl) (q0o q13 (q0o op_mul (pv 3) q07) q07))
    (q06 (q0q (q3n PySem.F.plainAttrs_list PySem.F.slot_list_append PySem.F.type_list_append q15 (pv 2) (q00 (q0o op_mul (pv 3) (pv 3)) q04))))))
   (q02 (q21 PassesOwn.never rfl (q1i (by rfl) T.range (q00 (q0b q48 (by rfl) T.len PySem.boot_len (q00 (pv 0) q04)) q04)) (q0k (i:=4) scLarge.nd rfl (Or.inl rfl))
    (q06 (q6w (q0o q13 (q0o q2c (q0n q0g (pv 2) (q0o q13 (pv 4) (pv 1)) (fun _ _=>rfl)) (q0n q0g (pv 0) (pv 4) (fun _ _=>rfl))) (q0o q2c (q0o q8h q07 q07) q07)) (q9d (pv 2) (q0o q13 (pv 4) (pv 1)) q4a))))
   (q06 (q0i (pv 2))))))),?_⟩
  try dsimp only [cx_of,cx_nox,cx_comp]
  refine ⟨by show 0≤sizeLine;decide,fun d hd=>?_⟩
  have s0:=Same.rfl'.new hd (o:=.lst [])
  have hd0:LI (upd H d (.lst [])) d []:=q01
  generalize upd H d (.lst [])=H0 at s0 hd0
  refine ⟨fun σ' H'=>∃ st:Int,σ'=[some (.ref a),some (.int (m:Int)),some (.ref d),some (.int st),none]∧H'=H0∧0≤st∧st < 2147483648,?_,?_⟩
  rotate_left
  ·refine ⟨_,rfl,a,_,rfl,.inl (s0.seq hS),_,_,rfl,rfl,_,rfl,?_⟩
   rw [List.length_map]
   by_cases h:0 < ns.length
   ·rw [decide_eq_true (show (0:Int) < (ns.length:Int) by omega)]
    refine iteT ⟨_,rfl,a,_,_,.int ns[0],rfl,rfl,s0.seq hS,q09 (j:=0) (by rw [List.getElem?_map,List.getElem?_eq_getElem h];rfl),_,_,rfl,rfl,(by show (0:Int) < 2147483646;decide),_,_,rfl,rfl,1+ns[0] % 2147483646,rfl,rfl,by omega,by omega⟩
   ·rw [decide_eq_false (show ¬ (0:Int) < (ns.length:Int) by omega)]
    exact iteF ⟨1,rfl,rfl,by omega,by omega⟩
  rintro σ1 H1' ⟨st,rfl,e1,hst0,hst1⟩
  rw [e1]
  clear e1 H1'
  refine ⟨_,rfl,(m:Int),rfl,by omega,by omega,?_⟩
  refine q2n (lo:=(0:Int)) (n:=((m:Nat):Int).toNat) (fun i σ H2=>∃ (cs:List Int) (st:Int) (u:Option V),Same H H2∧LI H2 d cs∧cs.length=i∧(∀ c∈cs,0≤c∧c≤10 ^ 60)∧(0≤st∧st < 2147483648)∧σ=[some (.ref a),some (.int (m:Int)),some (.ref d),some (.int st),u]) ⟨[],st,_,s0,hd0,rfl,fun c hc=>(by cases hc),⟨hst0,hst1⟩,rfl⟩ ?_ ?_
  ·rintro i σ H2 hi ⟨cs,st,u,s2,hd2,hcl,hcb,⟨h0,h1⟩,rfl⟩
   refine ⟨_,rfl,_,_,rfl,rfl,.inl ⟨by omega,by omega⟩,_,_,rfl,rfl,(by show (0:Int) < 2147483647;decide),?_⟩
   obtain ⟨x,hx⟩:∃ x:Int,x=st*16807 % 2147483647:=⟨_,rfl⟩
   have x0:0≤x∧x < 2147483647:=by omega
   show q7u 3 (V.int (st*16807 % 2147483647)) _ _ _
   rw [← hx]
   refine ⟨_,rfl,.inl ⟨rfl,_,SqL.of hd2⟩,_,rfl,_,rfl,_,_,rfl,rfl,.inl ⟨by omega,by omega⟩,d,_,_,rfl,rfl,hd2,by rw [List.length_map];exact q0c (by omega),cs++[x*x],x,_,fun b o e=>by rw [q08 (q05 e hd)];exact s2 _ _ e,?_,by rw [List.length_append,hcl];rfl,fun c hc=>?_,⟨by omega,by omega⟩,rfl⟩
   ·rw [LI,q01,List.map_append]
    rfl
   ·rcases List.mem_append.mp hc with h | h
    ·exact hcb c h
    ·rw [List.mem_singleton.mp h]
     have h1:=Int.mul_le_mul (show x≤2147483647 by omega) (show x≤2147483647 by omega) (by omega) (by omega)
     have h2:=Int.mul_nonneg x0.1 x0.1
     exact ⟨h2,Int.le_trans h1 (by decide)⟩
  ·rintro σ H2 ⟨cs,st,u,s2,hd2,hcl,hcb,_,rfl⟩
   rw [Int.toNat_natCast] at hcl
   refine ⟨_,rfl,a,_,rfl,.inl (s2.seq hS),(ns.length:Int),by rw [List.length_map],by omega,by omega,?_⟩
   have hm0:(0:Int) < (m:Int):=by omega
   refine q2n (lo:=(0:Int)) (n:=((ns.length:Nat):Int).toNat) (fun i σ H2=>∃ (cs:List Int) (u:Option V),Same H H2∧LI H2 d cs∧cs.length=m∧(∀ c∈cs,0≤c∧c≤10 ^ 60)∧σ=[some (.ref a),some (.int (m:Int)),some (.ref d),some (.int st),u]) ⟨cs,_,s2,hd2,hcl,hcb,rfl⟩ ?_ ?_
   ·clear hd2 hcl hcb s2 H2 cs
    rintro i σ H2 hi ⟨cs,u,s2,hd2,hcl,hcb,rfl⟩
    have hil:i < ns.length:=by omega
    have him:i % m < cs.length:=by rw [hcl];exact Nat.mod_lt _ (by omega)
    rw [show (0:Int)+(i:Int)=(i:Int) by omega]
    have em:(i:Int) % (m:Int)=((i % m:Nat):Int):=(Int.natCast_emod i m).symm
    have g1:atI (cs.map V.int) ((i:Int) % (m:Int))=some (.int cs[i % m]):=by
     rw [em]
     exact q09 (by rw [List.getElem?_map,List.getElem?_eq_getElem him];rfl)
    have g2:atI (ns.map V.int) (i:Int)=some (.int ns[i]):=q09 (by rw [List.getElem?_map,List.getElem?_eq_getElem hil];rfl)
    have g3:ixN (cs.map V.int).length ((i:Int) % (m:Int))=some (i % m):=by
     rw [em]
     exact q6v (by rw [List.length_map];exact him)
    refine ⟨_,rfl,_,rfl,_,rfl,_,_,rfl,rfl,hm0,d,_,_,.int cs[i % m],rfl,rfl,SqL.of hd2,g1,_,rfl,_,rfl,a,_,_,.int ns[i],rfl,rfl,s2.seq hS,g2,_,_,rfl,rfl,_,_,rfl,rfl,cpow60,_,_,rfl,rfl,_,_,rfl,rfl,lim60,?_⟩
    refine ⟨_,rfl,_,rfl,_,rfl,_,_,rfl,rfl,hm0,d,_,_,i % m,rfl,rfl,hd2,g3,?_⟩
    refine ⟨cs.set (i % m) ((cs[i % m]+ns[i]) % (10 ^ (60:Int).toNat+1)),_,fun b o e=>by rw [q08 (q05 e hd)];exact s2 _ _ e,?_,by rw [List.length_set];exact hcl,fun c hc=>?_,rfl⟩
    ·rw [LI,q01,List.map_set]
    ·rcases set_mem hc with h | h
     ·exact hcb c h
     ·rw [h]
      have h1:=Int.emod_nonneg (cs[i % m]+ns[i]) (b:=10 ^ (60:Int).toNat+1) (Int.ne_of_gt lim60)
      have h2:=Int.emod_lt_of_pos (cs[i % m]+ns[i]) (b:=10 ^ (60:Int).toNat+1) lim60
      exact ⟨h1,Int.lt_add_one_iff.mp h2⟩
   ·rintro σ H2 ⟨cs,u,s2,hd2,hcl,hcb,rfl⟩
    exact ⟨_,rfl,kQ H2 d cs s2 hd hd2 hcl hcb⟩
inductive spTownI  (vs:List V) (H:Hp) (Q:VK) (E:XK):Prop
 | mk (a:Addr) (ns:List Int) (m:Nat):(vs=[.ref a,.int (m:Int)])→(LI H a ns)→(ns.length=63)→(1≤m)→(m≤31)→(∀ (H':Hp) (t l:Addr) (r:Nat) (ps:PP) (xs:List V),Same H H'→H' t=some (.tup [.int ((r:Int)+1),.ref l])→H' l=some (.lst xs)→PV H' xs ps→(∀ p∈ps,q0z ((r:Int)+1) p=true)→r≤6→ps.length < m→(r=0→ps=[])→(r:Int)=ns.getD 0 0 % 7→Q (.ref t) H')→spTownI  vs H Q E
def spTown  : Sp:=fun vs H Q E=>spTownI  vs H Q E
theorem scTown:FnScope ["numbers", "most", "quarters", "many", "pairs", "k", "number", "one"] ["numbers", "most"] (q03 sTown):=⟨rfl,rfl,rfl,by decide +kernel,rfl,by decide +kernel,by decide +kernel⟩
theorem ok_town {f:Addr} {fd:FuncData} (T:Txt K mg CE CS CQ CT) (F:Fun K "_law_town" "_law_town" sTown f fd):FnOk P w K mg base CX0 1 f fd ["numbers", "most"] spTown:=by
 refine F.ok scTown (fun vs H Q E h=>?_) (fun cdv A outer s H vs Q E hr h=>?_)
 ·obtain ⟨a,ns,m,rfl,_⟩:=h
  rfl
 ·obtain ⟨a,ns,m,rfl,ha,hn,hm1,hm2,kQ⟩:=h
  refine ⟨_,q02 (q0a (i:=2) scTown.nd rfl (Or.inl rfl) (q0o q2c q07 (q0o q13 (q0n q0g (pv 0) q07 (fun _ _=>rfl)) q07)))
   (q02 (q0a (i:=3) scTown.nd rfl (Or.inl rfl) (q0o q13 (q0n q0g (pv 0) q07 (fun _ _=>rfl)) (pv 1)))
   (q02 (q3r (q11 (q0p q2z (pv 2) q07 (q0u _)) (q06 (q0a (i:=3) scTown.nd rfl (Or.inl rfl) q07)) q0f))
   (q02 (q0a (i:=4) scTown.nd rfl (Or.inl rfl) (q1q q04))
   (q02 (q21 PassesOwn.never rfl (q1i (by rfl) T.range (q00 (pv 3) q04)) (q0k (i:=5) scTown.nd rfl (Or.inl rfl))
    (q02 (q0a (i:=6) scTown.nd rfl (Or.inl rfl) (q0n q0g (pv 0) (q0o q2c q07 (pv 5)) (fun _ _=>rfl)))
    (q02 (q0a (i:=7) scTown.nd rfl (Or.inl rfl) (q0o q13 (pv 6) (pv 2)))
    (q06 (q0q (q3n PySem.F.plainAttrs_list PySem.F.slot_list_append PySem.F.type_list_append q15 (pv 4) (q00 (q1u (q00 (pv 7) (q00 (q0o q13 (q0o q2c (q0o q2c (pv 7) q07) (q0o q13 (q0o op_fdiv (pv 6) q07) (q0o q61 (pv 2) q07))) (pv 2)) q04))) q04)))))))
   (q06 (q0i (q1u (q00 (pv 2) (q00 (pv 4) q04))))))))),?_⟩
  try dsimp only [cx_of,cx_nox,cx_comp]
  have at_:∀ (G:Hp) (j:Nat),LI G a ns→(h:j < 63)→atI (ns.map V.int) ((j:Nat):Int)=some (.int (ns[j]'(by omega))):=fun G j _ hj=>q09 (by rw [List.getElem?_map,List.getElem?_eq_getElem (by omega)];rfl)
  refine ⟨_,rfl,a,_,_,_,rfl,rfl,SqL.of ha,at_ H 0 ha (by omega),_,_,rfl,rfl,(by show (0:Int) < 7;decide),_,_,rfl,rfl,?_⟩
  refine ⟨_,rfl,a,_,_,_,rfl,rfl,SqL.of ha,at_ H 1 ha (by omega),_,rfl,_,_,rfl,rfl,(by show (0:Int) < (m:Int);omega),?_⟩
  obtain ⟨r,hr6,hrq⟩:∃ r:Nat,r≤6∧(r:Int)=(ns[0]'(by omega)) % 7:=⟨((ns[0]'(by omega)) % 7).toNat,by omega,by omega⟩
  have eq0:(1:Int)+(ns[0]'(by omega)) % 7=(r:Int)+1:=by omega
  have hx0:=Int.emod_nonneg (ns[1]'(by omega)) (b:=(m:Int)) (by omega)
  have hx1:=Int.emod_lt_of_pos (ns[1]'(by omega)) (b:=(m:Int)) (by omega)
  obtain ⟨y,hy⟩:∃ y:Nat,(y:Int)=(ns[1]'(by omega)) % (m:Int):=⟨((ns[1]'(by omega)) % (m:Int)).toNat,by omega⟩
  refine ⟨fun σ' H'=>∃ z:Nat,σ'=[some (.ref a),some (.int (m:Int)),some (.int ((r:Int)+1)),some (.int (z:Int)),none,none,none,none]∧H'=H∧z < m∧(r=0→z=0),?_,?_⟩
  rotate_left
  ·refine ⟨_,rfl,rfl,_,rfl,?_⟩
   rw [eq0,q25]
   by_cases h0:(r:Int)+1=1
   ·rw [decide_eq_true h0]
    refine iteT ⟨0,rfl,rfl,by omega,fun _=>rfl⟩
   ·rw [decide_eq_false h0]
    refine iteF ⟨y,?_,rfl,by omega,fun z=>by omega⟩
    rw [hy]
    rfl
  rintro σ1 H1' ⟨z,rfl,e1,hz,hz0⟩
  rw [e1]
  clear e1 H1'
  refine ⟨by show 0≤sizeLine;decide,fun d hd=>?_⟩
  have s0:=Same.rfl'.new hd (o:=.lst [])
  refine ⟨_,rfl,(z:Int),rfl,by omega,by omega,?_⟩
  refine q2n (lo:=(0:Int)) (n:=((z:Nat):Int).toNat) (fun i σ H2=>(∃ (xs:List V) (ps:PP),Same H H2∧H2 d=some (.lst xs)∧PV H2 xs ps∧ps.length=i∧∀ p∈ps,q0z ((r:Int)+1) p=true)∧∃ u v w,σ=[some (.ref a),some (.int (m:Int)),some (.int ((r:Int)+1)),some (.int (z:Int)),some (.ref d),u,v,w]) ⟨⟨[],[],s0,q01,.nil,rfl,fun p hp=>(by cases hp)⟩,_,_,_,rfl⟩ ?_ ?_
  ·rintro i σ H2 hi ⟨⟨xs,ps,s2,hd2,hpv,hpl,hok⟩,u,v,w,rfl⟩
   have hiz:i < z:=by omega
   have hr1:1≤r:=Nat.pos_of_ne_zero fun e=>by have:=hz0 e;omega
   have hxl:=hpv.length
   rw [show (0:Int)+(i:Int)=(i:Int) by omega]
   have e8:(8:Int)+(i:Int)=((8+i:Nat):Int):=by omega
   have g8:atI (ns.map V.int) ((8:Int)+(i:Int))=some (.int (ns[8+i]'(by omega))):=by
    rw [e8]
    exact at_ H2 (8+i) (s2 _ _ ha) (by omega)
   obtain ⟨x,hx⟩:∃ x,x=ns[8+i]'(by omega):=⟨_,rfl⟩
   rw [← hx] at g8
   refine ⟨_,rfl,_,rfl,_,_,rfl,rfl,a,_,_,_,rfl,rfl,SqL.of (s2 _ _ ha),g8,?_⟩
   have hq0:(0:Int) < (r:Int)+1:=by omega
   have hq1:(0:Int) < (r:Int)+1 - 1:=by omega
   refine ⟨_,rfl,_,rfl,_,_,rfl,rfl,hq0,?_⟩
   refine ⟨_,rfl,.inl ⟨rfl,_,SqL.of hd2⟩,_,rfl,_,rfl,_,_,rfl,rfl,_,rfl,_,_,rfl,rfl,⟨by decide,by decide⟩,_,rfl,_,_,rfl,rfl,_,_,rfl,rfl,hq1,_,_,rfl,rfl,_,rfl,_,_,rfl,rfl,hq0,by show 2≤sizeLine;decide,fun t ht=>?_⟩
   have o1:=Int.emod_nonneg x (b:=(r:Int)+1) (by omega)
   have o2:=Int.emod_lt_of_pos x (b:=(r:Int)+1) hq0
   have o3:=Int.emod_nonneg (x / 7) (b:=(r:Int)+1 - 1) (by omega)
   have o4:=Int.emod_lt_of_pos (x / 7) (b:=(r:Int)+1 - 1) hq1
   have okp:=pair_ok o1 o2 o3 o4
   have ut:=Same.rfl'.new ht (o:=.tup [.int (x % ((r:Int)+1)),.int ((x % ((r:Int)+1)+1+x / 7 % ((r:Int)+1 - 1)) % ((r:Int)+1))])
   have htt:(upd H2 t (.tup [.int (x % ((r:Int)+1)),.int ((x % ((r:Int)+1)+1+x / 7 % ((r:Int)+1 - 1)) % ((r:Int)+1))])) t=some (.tup [.int (x % ((r:Int)+1)),.int ((x % ((r:Int)+1)+1+x / 7 % ((r:Int)+1 - 1)) % ((r:Int)+1))]):=q01
   obtain ⟨pr,epr⟩:∃ pr:Int × Int,pr=(x % ((r:Int)+1),(x % ((r:Int)+1)+1+x / 7 % ((r:Int)+1 - 1)) % ((r:Int)+1)):=⟨_,rfl⟩
   rw [← epr] at okp
   have htt2:(upd H2 t (.tup [.int (x % ((r:Int)+1)),.int ((x % ((r:Int)+1)+1+x / 7 % ((r:Int)+1 - 1)) % ((r:Int)+1))])) t=some (.tup [.int pr.1,.int pr.2]):=by rw [epr];exact htt
   generalize upd H2 t (.tup [.int (x % ((r:Int)+1)),.int ((x % ((r:Int)+1)+1+x / 7 % ((r:Int)+1 - 1)) % ((r:Int)+1))])=H3 at ut htt htt2
   have hd3:=ut _ _ hd2
   refine ⟨d,_,_,rfl,rfl,hd3,q0c (by omega),⟨xs++[.ref t],ps++[pr],fun b o e=>by rw [q08 (q05 e hd)];exact ut _ _ (s2 _ _ e),q01,All2.append ((hpv.same ut).mono fun b ys' e=>?_) (.cons ⟨t,rfl,?_⟩ .nil),by rw [List.length_append,hpl];rfl,fun p hp=>?_⟩,_,_,_,rfl⟩
   ·rw [q08 (q5q e hd3 (by intro z;cases z))]
    exact e
   ·rw [q08 (q5q htt2 hd3 (by intro z;cases z))]
    exact htt2
   ·rcases List.mem_append.mp hp with h | h
    ·exact hok p h
    ·rw [List.mem_singleton.mp h]
     exact okp
  ·rintro σ H2 ⟨⟨xs,ps,s2,hd2,hpv,hpl,hok⟩,u,v,w,rfl⟩
   rw [Int.toNat_natCast] at hpl
   refine ⟨_,rfl,_,rfl,by show 2≤sizeLine;decide,fun t ht=>?_⟩
   have u3:=Same.rfl'.new ht (o:=.tup [.int ((r:Int)+1),.ref d])
   refine kQ _ t d r ps xs (s2.tr u3) q01 (u3 _ _ hd2) (hpv.same u3) hok hr6 (by omega) (fun e=>List.eq_nil_of_length_eq_zero (by have:=hz0 e;omega)) ?_
   rw [hrq,List.getD_eq_getElem?_getD,List.getElem?_eq_getElem (by omega)]
   rfl
end
end K28
namespace K28
open PySem L2 XM GM
section
variable {P:Program} {w:World} {K:W.Frag} {mg:Str→Option Value} {base:Heap} {CE CS CQ CT:Addr}
inductive spCheckWEI (CS:Addr) (vs:List V) (H:Hp) (Q:VK) (E:XK):Prop
 | mk (lw l2:Addr) (ws:List Int) (ys:List V):(vs=[.ref lw,.ref l2])→(LI H lw ws)→(H l2=some (.lst ys))→(ws.length≤1000)→((q0s ws ys.length=true→∀ H',Same H H'→Q .non H'))→((q0s ws ys.length=false→∀ H',Same H H'→E (.ref CS) none H'))→spCheckWEI CS vs H Q E
def q5t (CS:Addr):Sp:=fun vs H Q E=>spCheckWEI CS vs H Q E
theorem ok_checkWE {f fA:Addr} {fd dA:FuncData} (T:Txt K mg CE CS CQ CT) (F:Fun K "check_wages" "check_wages" q41 f fd) (GA:Cal P w K mg base 1 "are_amounts" fA dA ["numbers", "count"] q8x) :
  FnOk P w K mg base (CXE P w) 2 f fd ["wages", "bridges"] (q5t CS):=by
 refine F.okE scCheckW (fun vs H Q E h=>?_) (fun cdv A outer s H vs Q E hr h=>?_)
 ·obtain ⟨lw,l2,ws,ys,rfl,_⟩:=h
  rfl
 ·obtain ⟨lw,l2,ws,ys,rfl,hw,hl,hn,kQ,kE⟩:=h
  have lets:=q5c (P:=P) (w:=w) (K:=K) (mg:=mg) (base:=base) (N:=["wages", "bridges"]) (qual := "check_wages") (scope:=q03 q41) (f:=f) (cd:=cdv) (A:=A) (outer:=outer) (s:=s) (H:=H) (E:=E)
  refine ⟨_,q06 (q11 (q32 (q1t (q0h GA.ok hr (by rfl) GA.nm GA.kp GA.bi .nil q1a (q00 (pv 0) (q00 (q0b q48 (by rfl) T.len PySem.boot_len (q00 (pv 1) q04)) q04))))) (q06 (z0v lets T.errS hr.hd (by rfl) T.mgTS (q00 q0x q04))) q0f),?_⟩
  try dsimp only [cx_of,cx_nox,cx_comp]
  refine ⟨_,rfl,_,rfl,l2,_,rfl,.inl (SqL.of hl),lw,ws,ys.length,rfl,hw,hn,fun H1 s1=>⟨_,rfl,?_⟩⟩
  cases ha:q0s ws ys.length with
  | true=>exact iteF (kQ ha H1 s1)
  | false=>exact iteT ⟨by show 1≤sizeLine;decide,kE ha _ s1⟩
inductive spCheckCEI (CQ:Addr) (vs:List V) (H:Hp) (Q:VK) (E:XK):Prop
 | mk (c:Int):(vs=[.int c])→(((1≤c∧c≤60)→Q .non H))→((¬ (1≤c∧c≤60)→∀ H',Same H H'→E (.ref CQ) none H'))→spCheckCEI CQ vs H Q E
def q6a (CQ:Addr):Sp:=fun vs H Q E=>spCheckCEI CQ vs H Q E
theorem ok_checkCE {f:Addr} {fd:FuncData} (T:Txt K mg CE CS CQ CT) (F:Fun K "check_crews" "check_crews" q45 f fd) :
  FnOk P w K mg base (CXE P w) 1 f fd ["crews"] (q6a CQ):=by
 refine F.okE scCheckC (fun vs H Q E h=>?_) (fun cdv A outer s H vs Q E hr h=>?_)
 ·obtain ⟨c,rfl,_⟩:=h
  rfl
 ·obtain ⟨c,rfl,kQ,kE⟩:=h
  obtain ⟨t60,m60⟩:=T.mc
  have lets:=q5c (P:=P) (w:=w) (K:=K) (mg:=mg) (base:=base) (N:=["crews"]) (qual := "check_crews") (scope:=q03 q45) (f:=f) (cd:=cdv) (A:=A) (outer:=outer) (s:=s) (H:=H) (E:=E)
  refine ⟨_,q06 (q11 (q32 (z1k z0l z0l q07 (pv 0) (q0l (v:=.int 60) (by rfl) m60 ⟨_,rfl⟩)))
    (q06 (z0v lets T.errL hr.hd (by rfl) T.mgTL (q00 (pe_fstr (pj_str (pj_int (i:=60) (k:=2) (q0l (v:=.int 60) rfl m60 ⟨_,rfl⟩) (by decide) (by decide +kernel) (pj_str pj_nil))) (by decide)) q04))) q0f),?_⟩
  try dsimp only [cx_of,cx_nox,cx_comp]
  refine ⟨_,rfl,_,_,rfl,rfl,_,rfl,?_⟩
  by_cases h1:1≤c
  rotate_left
  ·rw [decide_eq_false h1]
   refine iteF ⟨_,rfl,iteT ?_⟩
   intro z
   exact ⟨by show 1≤sizeLine;decide,kE (fun h=>h1 h.1) _ Same.rfl'⟩
  rw [decide_eq_true h1]
  refine iteT ⟨_,_,rfl,rfl,_,rfl,?_⟩
  by_cases h2:c≤60
  rotate_left
  ·rw [decide_eq_false h2]
   refine iteT ?_
   intro z
   exact ⟨by show 1≤sizeLine;decide,kE (fun h=>h2 h.2) _ Same.rfl'⟩
  rw [decide_eq_true h2]
  exact iteF (kQ ⟨h1,h2⟩)
inductive spJoiningEI (CT CQ:Addr) (vs:List V) (H:Hp) (Q:VK) (E:XK):Prop
 | mk (p l2:Addr) (r:Nat) (ys:List V) (ps:PP) (c:Int):(vs=[.ref p,.int c])→(TownAt CT H p l2 ((r:Int)+1) ys)→(PV H ys ps)→(fits ((r:Int)+1) ps=true)→((∀ cr:Nat,c=(cr:Int)→1≤cr→cr≤60→∀ (H':Hp) (t:Addr),Same H H'→JO H' ps r cr t→Q (.ref t) H'))→((¬ (1≤c∧c≤60)→∀ H',Same H H'→E (.ref CQ) none H'))→spJoiningEI CT CQ vs H Q E
def q6k (CT CQ:Addr):Sp:=fun vs H Q E=>spJoiningEI CT CQ vs H Q E
theorem q9l {f fC fD:Addr} {fd dC dD:FuncData} (T:Txt K mg CE CS CQ CT) (F:Fun K "joining_crews" "joining_crews" q2w f fd)
  (GC:FnOk P w K mg base (CXE P w) 1 fC dC ["crews"] (q6a CQ)) (bC:Binds K dC ["crews"] []) (mC:mg "check_crews" = some (.ref fC)) (kC:W.keepIn K (.ref fC)=true)
  (GD:Cal P w K mg base 6 "joined_or_parted" fD dD ["town", "crews"] (z0t CT)) :
  FnOk P w K mg base (CXE P w) 7 f fd ["town", "crews"] (q6k CT CQ):=by
 refine F.okE scJoining (fun vs H Q E h=>?_) (fun cdv A outer s H vs Q E hr h=>?_)
 ·obtain ⟨p,l2,r,ys,ps,c,rfl,_⟩:=h
  rfl
 ·obtain ⟨p,l2,r,ys,ps,c,rfl,ht,hp,hft,kQ,kE⟩:=h
  have lets:=q5c (P:=P) (w:=w) (K:=K) (mg:=mg) (base:=base) (N:=["town", "crews"]) (qual := "joining_crews") (scope:=q03 q2w) (f:=f) (cd:=cdv) (A:=A) (outer:=outer) (s:=s) (H:=H) (E:=E)
  have hr1:=hr.mono (show 1≤6 by omega)
  refine ⟨_,q02 (q0q (q0h GC hr1 (by rfl) mC kC bC .nil lets.pass (q00 (pv 1) q04)))
   (q06 (q0i (q0h GD.ok hr (by rfl) GD.nm GD.kp GD.bi .nil q1a (q00 (pv 0) (q00 (pv 1) q04))))),?_⟩
  try dsimp only [cx_of,cx_nox,cx_comp]
  refine ⟨_,rfl,c,rfl,fun hc=>?_,fun hc H' s'=>kE hc H' s'⟩
  obtain ⟨cr,rfl⟩:∃ cr:Nat,c=(cr:Int):=⟨c.toNat,by omega⟩
  exact ⟨_,rfl,_,rfl,p,l2,r,ys,ps,cr,rfl,ht,hp,hft,by omega,kQ cr rfl (by omega) (by omega)⟩
inductive spDearEI (CT CS CQ:Addr) (vs:List V) (H:Hp) (Q:VK) (E:XK):Prop
 | mk (p l2 lw:Addr) (r:Nat) (ys:List V) (ps:PP) (c:Int) (ws:List Int):(vs=[.ref p,.int c,.ref lw])→(TownAt CT H p l2 ((r:Int)+1) ys)→(PV H ys ps)→(fits ((r:Int)+1) ps=true)→(LI H lw ws)→(ws.length≤1000)→((q0s ws ps.length=true→1≤c→c≤60→∀ (H':Hp) (t:Addr),Same H H'→Q (.ref t) H'))→((q0s ws ps.length=false→∀ H',Same H H'→E (.ref CS) none H'))→((q0s ws ps.length=true→¬ (1≤c∧c≤60)→∀ H',Same H H'→E (.ref CQ) none H'))→spDearEI CT CS CQ vs H Q E
def q7o (CT CS CQ:Addr):Sp:=fun vs H Q E=>spDearEI CT CS CQ vs H Q E
theorem ok_dearE {f fW fC fD:Addr} {fd dW dC dD:FuncData} (T:Txt K mg CE CS CQ CT) (F:Fun K "dearest_dealing" "dearest_dealing" q31 f fd)
  (GW:FnOk P w K mg base (CXE P w) 2 fW dW ["wages", "bridges"] (q5t CS)) (bW:Binds K dW ["wages", "bridges"] []) (mW:mg "check_wages" = some (.ref fW)) (kpW:W.keepIn K (.ref fW)=true)
  (GC:FnOk P w K mg base (CXE P w) 1 fC dC ["crews"] (q6a CQ)) (bC:Binds K dC ["crews"] []) (mC:mg "check_crews" = some (.ref fC)) (kpC:W.keepIn K (.ref fC)=true)
  (GD:Cal P w K mg base 5 "dealt_by_wages" fD dD ["town", "crews", "wages", "order"] (q7j CT)) :
  FnOk P w K mg base (CXE P w) 6 f fd ["town", "crews", "wages"] (q7o CT CS CQ):=by
 refine F.okE scDearest (fun vs H Q E h=>?_) (fun cdv A outer s H vs Q E hr h=>?_)
 ·obtain ⟨p,l2,lw,r,ys,ps,c,ws,rfl,_⟩:=h
  rfl
 ·obtain ⟨p,l2,lw,r,ys,ps,c,ws,rfl,ht,hp,hft,hw,hn,kQ,kW,kC⟩:=h
  have lets:=q5c (P:=P) (w:=w) (K:=K) (mg:=mg) (base:=base) (N:=["town", "crews", "wages"]) (qual := "dearest_dealing") (scope:=q03 q31) (f:=f) (cd:=cdv) (A:=A) (outer:=outer) (s:=s) (H:=H) (E:=E)
  have r1:=hr.mono (show 1≤5 by omega)
  have r2:=hr.mono (show 2≤5 by omega)
  refine ⟨_,q02 (q0q (q0h GW r2 (by rfl) mW kpW bW .nil lets.pass (q00 (pv 2) (q00 (q3q (pv 0) rfl) q04))))
   (q02 (q0q (q0h GC r1 (by rfl) mC kpC bC .nil lets.pass (q00 (pv 1) q04)))
   (q06 (q0i (q0h GD.ok hr (by rfl) GD.nm GD.kp GD.bi .nil q1a (q00 (pv 0) (q00 (pv 1) (q00 (pv 2) (q00 (pe_listRev rfl (by rfl) T.list (by rfl) T.reversed (q3a rfl (by rfl) T.sorted q1v (by rfl) T.set q4k (q00 (pv 2) q04))) q04)))))))),?_⟩
  try dsimp only [cx_of,cx_nox,cx_comp]
  obtain ⟨⟨dx,htp⟩,hl2⟩:=id ht
  have hlen:=hp.length
  obtain ⟨_,h60,hok⟩:=q1z hft
  refine ⟨_,rfl,_,rfl,p,CT,dx,_,_,rfl,htp,T.cl,T.nb,q5m _ _,lw,l2,ws,ys,rfl,hw,hl2,hn,fun ha H1 s1=>?_,fun ha H' s'=>kW (by rw [← hlen];exact ha) H' s'⟩
  rw [hlen] at ha
  obtain ⟨hwl,hwr⟩:=q2x ha
  refine ⟨_,rfl,c,rfl,fun hc=>?_,fun hc H' s'=>kC ha hc H' (s1.tr s')⟩
  obtain ⟨cr,rfl⟩:∃ cr:Nat,c=(cr:Int):=⟨c.toNat,by omega⟩
  have hw1:=s1 _ _ hw
  have hdl:(q0j ws).length≤ws.length:=PyProof.Rows.firstMet_length_le _ _
  refine ⟨_,rfl,_,rfl,_,rfl,_,rfl,lw,ws,rfl,SqL.of hw1,by show ws.length+1 < 4096;omega,by omega,fun d ns hd hperm hso=>?_⟩
  have u1:=Same.rfl'.new hd (o:=.lst (ns.map V.int))
  have hdv:(upd H1 d (.lst (ns.map V.int))) d=some (.lst (ns.map V.int)):=q01
  generalize upd H1 d (.lst (ns.map V.int))=H2 at u1 hdv
  refine ⟨d,_,rfl,SqL.of hdv,fun d2 hd2=>?_⟩
  have u2:=Same.rfl'.new hd2 (o:=.lst (ns.map V.int).reverse)
  have hd2v:LI (upd H2 d2 (.lst (ns.map V.int).reverse)) d2 ns.reverse:=by rw [LI,q01,List.map_reverse]
  generalize upd H2 d2 (.lst (ns.map V.int).reverse)=H3 at u2 hd2v
  have s03:=s1.tr (u1.tr u2)
  have nnd:ns.Nodup:=(hperm.nodup_iff).mpr (q1f _)
  have hnl:ns.reverse.length≤60:=by rw [List.length_reverse,hperm.length_eq];omega
  exact ⟨p,l2,lw,d2,_,ys,ps,cr,ws,ns.reverse,rfl,ht.same s03,hp.same s03,hft,by omega,s03 _ _ hw,hwl,hd2v,((List.reverse_perm ns).nodup_iff).mpr nnd,hnl,fun H' t s l lz as ads shown ts cof bs huds s' h1 h2=>kQ ha hc.1 hc.2 H' t (s03.tr s')⟩
theorem ok_cheapE {f fW fJ fD:Addr} {fd dW dJ dD:FuncData} (T:Txt K mg CE CS CQ CT) (F:Fun K "cheapest_joining" "cheapest_joining" q2e f fd)
  (GW:FnOk P w K mg base (CXE P w) 2 fW dW ["wages", "bridges"] (q5t CS)) (bW:Binds K dW ["wages", "bridges"] []) (mW:mg "check_wages" = some (.ref fW)) (kpW:W.keepIn K (.ref fW)=true)
  (GJ:FnOk P w K mg base (CXE P w) 7 fJ dJ ["town", "crews"] (q6k CT CQ)) (bJ:Binds K dJ ["town", "crews"] []) (mJ:mg "joining_crews" = some (.ref fJ)) (kpJ:W.keepIn K (.ref fJ)=true)
  (GD:Cal P w K mg base 5 "dealt_by_wages" fD dD ["town", "crews", "wages", "order"] (q7j CT)) :
  FnOk P w K mg base (CXE P w) 8 f fd ["town", "crews", "wages"] (q7o CT CS CQ):=by
 refine F.okE scCheapest (fun vs H Q E h=>?_) (fun cdv A outer s H vs Q E hr h=>?_)
 ·obtain ⟨p,l2,lw,r,ys,ps,c,ws,rfl,_⟩:=h
  rfl
 ·obtain ⟨p,l2,lw,r,ys,ps,c,ws,rfl,ht,hp,hft,hw,hn,kQ,kW,kC⟩:=h
  have lets:=q5c (P:=P) (w:=w) (K:=K) (mg:=mg) (base:=base) (N:=["town", "crews", "wages", "told"]) (qual := "cheapest_joining") (scope:=q03 q2e) (f:=f) (cd:=cdv) (A:=A) (outer:=outer) (s:=s) (H:=H) (E:=E)
  have r2:=hr.mono (show 2≤7 by omega)
  have r5:=hr.mono (show 5≤7 by omega)
  refine ⟨_,q02 (q0q (q0h GW r2 (by rfl) mW kpW bW .nil lets.pass (q00 (pv 2) (q00 (q3q (pv 0) rfl) q04))))
   (q02 (q0a (i:=3) scCheapest.nd rfl (Or.inl rfl) (q0h GJ hr (by rfl) mJ kpJ bJ .nil lets.pass (q00 (pv 0) (q00 (pv 1) q04))))
   (q02 (q11 (q0p q2z (q0n q18 (pv 3) q07 (fun _ _=>rfl)) q0x (q0u _)) (q06 (q0i (pv 3))) q0f)
   (q06 (q0i (q0o op_catT (q1u (q00 q0x q04)) (q0h GD.ok r5 (by rfl) GD.nm GD.kp GD.bi .nil q1a (q00 (pv 0) (q00 (pv 1) (q00 (pv 2) (q00 (q3a rfl (by rfl) T.sorted q1v (by rfl) T.set q4k (q00 (pv 2) q04)) q04)))))))))),?_⟩
  try dsimp only [cx_of,cx_nox,cx_comp]
  obtain ⟨⟨dx,htp⟩,hl2⟩:=id ht
  have hlen:=hp.length
  obtain ⟨_,h60,hok⟩:=q1z hft
  refine ⟨_,rfl,_,rfl,p,CT,dx,_,_,rfl,htp,T.cl,T.nb,q5m _ _,lw,l2,ws,ys,rfl,hw,hl2,hn,fun ha H1 s1=>?_,fun ha H' s'=>kW (by rw [← hlen];exact ha) H' s'⟩
  rw [hlen] at ha
  obtain ⟨hwl,hwr⟩:=q2x ha
  refine ⟨_,rfl,_,rfl,p,l2,r,ys,ps,c,rfl,ht.same s1,hp.same s1,hft,fun cr ec hc1 hc2 H2 t2 s2 h2=>?_,fun hc H' s'=>kC ha hc H' (s1.tr s')⟩
  subst ec
  have s12:=s1.tr s2
  rcases h2 with ⟨l,xd,nss,j⟩ | ⟨a,xs,nss,j⟩
  ·refine ⟨_,rfl,t2,_,_,_,rfl,rfl,SqT.of j.ht,q09 (j:=0) rfl,rfl,_,rfl,?_⟩
   rw [show decide (V.str ("crews" : Str)=V.str ("parting" : Str))=false from by decide +kernel]
   refine iteF ⟨by show 1≤sizeLine;decide,fun tc htc=>?_⟩
   have uc:=Same.rfl'.new htc (o:=.tup [.str "crews"])
   have htcv:(upd H2 tc (.tup [.str "crews"])) tc=some (.tup [.str "crews"]):=q01
   generalize upd H2 tc (.tup [.str "crews"])=H3 at uc htcv
   have s13:=s12.tr uc
   have hdl:(q0j ws).length≤ws.length:=PyProof.Rows.firstMet_length_le _ _
   refine ⟨_,rfl,_,rfl,_,rfl,_,rfl,lw,ws,rfl,SqL.of (s13 _ _ hw),by show ws.length+1 < 4096;omega,by omega,fun d ns hd hperm hso=>?_⟩
   have u1:=Same.rfl'.new hd (o:=.lst (ns.map V.int))
   have hdv:LI (upd H3 d (.lst (ns.map V.int))) d ns:=q01
   generalize upd H3 d (.lst (ns.map V.int))=H4 at u1 hdv
   have s14:=s13.tr u1
   have nnd:ns.Nodup:=(hperm.nodup_iff).mpr (q1f _)
   have hnl:ns.length≤60:=by rw [hperm.length_eq];omega
   refine ⟨p,l2,lw,d,_,ys,ps,cr,ws,ns,rfl,ht.same s14,hp.same s14,hft,by omega,s14 _ _ hw,hwl,hdv,nnd,hnl,fun H5 t5 sv l5 lz as ads shown ts cof bs huds s5 h5 TD=>?_⟩
   refine ⟨tc,t5,_,_,rfl,rfl,SqT.of (s5 _ _ (u1 _ _ htcv)),SqT.of h5,by simp,by show 1+3≤sizeLine;decide,fun z=>by simp at z,fun _ t6 ht6=>?_⟩
   have u6:=Same.rfl'.new ht6 (o:=.tup ([.str "crews"]++[.int sv,.ref l5,.ref lz]))
   exact kQ ha (by omega) (by omega) _ t6 (s14.tr (s5.tr u6))
  ·refine ⟨_,rfl,t2,_,_,_,rfl,rfl,SqT.of j.ht,q09 (j:=0) rfl,rfl,_,rfl,?_⟩
   rw [show decide (V.str ("parting" : Str)=V.str ("parting" : Str))=true from by decide +kernel]
   exact iteT ⟨_,rfl,kQ ha (by omega) (by omega) _ t2 s12⟩
end
end K28
namespace K28
open PySem L2 XM GM
theorem erase_map (ws:List Int) (k:Nat):(ws.map V.int).eraseIdx k=(ws.eraseIdx k).map V.int:=by
 induction ws generalizing k with
 | nil=>rfl
 | cons x t ih=>
  cases k with
  | zero=>rfl
  | succ k=>
   show V.int x::(t.map V.int).eraseIdx k=V.int x::(t.eraseIdx k).map V.int
   rw [ih]
section
variable {P:Program} {w:World} {K:W.Frag} {mg:Str→Option Value} {base:Heap} {CE CS CQ CT:Addr}
inductive spCalledI (x:Str) (vs:List V) (H:Hp) (Q:VK) (E:XK):Prop
 | mk (v:_):(vs=[v])→(Q (.str x) H)→spCalledI x vs H Q E
def q52 (x:Str):Sp:=fun vs H Q E=>spCalledI x vs H Q E
theorem scCalledS:FnScope ["self"] ["self"] (q03 q3l):=⟨rfl,rfl,rfl,by decide +kernel,rfl,by decide +kernel,by decide +kernel⟩
theorem ok_calledS {f:Addr} {fd:FuncData} (F:Fun K "called" "BadWages.called" q3l f fd):FnOk P w K mg base CX0 1 f fd ["self"] (q52 "BadWages"):=by
 refine F.ok scCalledS (fun vs H Q E h=>?_) (fun cdv A outer s H vs Q E hr h=>?_)
 ·obtain ⟨v,rfl,_⟩:=h
  rfl
 ·obtain ⟨v,rfl,k⟩:=h
  exact ⟨_,q06 (q0i q0x),k⟩
theorem scCalledL:FnScope ["self"] ["self"] (q03 q3e):=⟨rfl,rfl,rfl,by decide +kernel,rfl,by decide +kernel,by decide +kernel⟩
theorem ok_calledL {f:Addr} {fd:FuncData} (F:Fun K "called" "BadCount.called" q3e f fd):FnOk P w K mg base CX0 1 f fd ["self"] (q52 "BadCount"):=by
 refine F.ok scCalledL (fun vs H Q E h=>?_) (fun cdv A outer s H vs Q E hr h=>?_)
 ·obtain ⟨v,rfl,_⟩:=h
  rfl
 ·obtain ⟨v,rfl,k⟩:=h
  exact ⟨_,q06 (q0i q0x),k⟩
def q2f (a:Bool) (c:Int):Str:=if a=false then "BadWages" else if 1≤c∧c≤60 then "told" else "BadCount"
inductive spWordI (CT:Addr) (vs:List V) (H:Hp) (Q:VK) (E:XK):Prop
 | mk (way:Int) (p l2 lw:Addr) (r:Nat) (ys:List V) (ps:PP) (c:Int) (ws:List Int):(vs=[.int way,.ref p,.int c,.ref lw])→((way=0∨way=1))→(TownAt CT H p l2 ((r:Int)+1) ys)→(PV H ys ps)→(fits ((r:Int)+1) ps=true)→(LI H lw ws)→(ws.length≤100)→(∀ H',Same H H'→Q (.str (q2f (q0s ws ps.length) c)) H')→spWordI CT vs H Q E
def spWord (CT:Addr):Sp:=fun vs H Q E=>spWordI CT vs H Q E
theorem scWord:FnScope ["way", "town", "crews", "wages", "caught", "handed", "e", "word"] ["way", "town", "crews", "wages"] (q03 sWord):=⟨rfl,rfl,rfl,by decide +kernel,rfl,by decide +kernel,by decide +kernel⟩
theorem ok_word {f f1 f2 fD fC:Addr} {fd fd1 fd2 dD dC:FuncData} (T:Txt K mg CE CS CQ CT) (F:Fun K "_law_word" "_law_word" sWord f fd)
  (G1:FnOk P w K mg base CX0 1 f1 fd1 ["self"] (q52 "BadWages")) (b1:Binds K fd1 ["self"] []) (hf1:W.findIn K (.ref CS) "called" = some (some (.ref f1))) (ht1:W.isFn K (.ref f1)=true) (k1:W.keepIn K (.ref f1)=true)
  (G2:FnOk P w K mg base CX0 1 f2 fd2 ["self"] (q52 "BadCount")) (b2:Binds K fd2 ["self"] []) (hf2:W.findIn K (.ref CQ) "called" = some (some (.ref f2))) (ht2:W.isFn K (.ref f2)=true) (k2:W.keepIn K (.ref f2)=true)
  (GD:FnOk P w K mg base (CXE P w) 6 fD dD ["town", "crews", "wages"] (q7o CT CS CQ)) (bD:Binds K dD ["town", "crews", "wages"] []) (mD:mg "dearest_dealing" = some (.ref fD)) (kD:W.keepIn K (.ref fD)=true)
  (GC:FnOk P w K mg base (CXE P w) 8 fC dC ["town", "crews", "wages"] (q7o CT CS CQ)) (bC:Binds K dC ["town", "crews", "wages"] []) (mC:mg "cheapest_joining" = some (.ref fC)) (kC:W.keepIn K (.ref fC)=true) :
  FnOk P w K mg base CX0 9 f fd ["way", "town", "crews", "wages"] (spWord CT):=by
 refine F.ok scWord (fun vs H Q E h=>?_) (fun cdv A outer s H vs Q E hr h=>?_)
 ·obtain ⟨way,p,l2,lw,r,ys,ps,c,ws,rfl,_⟩:=h
  rfl
 ·obtain ⟨way,p,l2,lw,r,ys,ps,c,ws,rfl,hway,ht,hp,hft,hw,hn,kQ⟩:=h
  have r1:=hr.mono (show 1≤8 by omega)
  have r6:=hr.mono (show 6≤8 by omega)
  have hu:=hr.units
  obtain ⟨a1,a2,a3,a4,a5,a6,a7,a8,g1,g2,g3,g4,g5,g6,g7,g8,fS8,fL8⟩:=T.eight
  obtain ⟨z1,z2,z3,h1,h2,h3,fS3,fL3⟩:=T.three
  have p8:Paired (fun y c=>clsV y=some c) ([.ref a1,.ref a2,.ref a3,.ref a4,.ref a5,.ref a6,.ref a7,.ref a8]:List V) ([.ref a1,.ref a2,.ref a3,.ref a4,.ref a5,.ref a6,.ref a7,.ref a8]:List Value):=.cons rfl (.cons rfl (.cons rfl (.cons rfl (.cons rfl (.cons rfl (.cons rfl (.cons rfl (.nil))))))))
  have p3:Paired (fun y c=>clsV y=some c) ([.ref z1,.ref z2,.ref z3]:List V) ([.ref z1,.ref z2,.ref z3]:List Value):=.cons rfl (.cons rfl (.cons rfl (.nil)))
  by_cases hL:q0s ws ps.length=true∧¬ (1≤c∧c≤60)
  ·obtain ⟨ha,hc⟩:=hL
   have ew:q2f (q0s ws ps.length) c = "BadCount" := by unfold q2f;rw [ha,if_neg (by decide),if_neg hc]
   rw [ew] at kQ
   refine ⟨_,q02 (q0a (i:=4) scWord.nd rfl (Or.inl rfl) q6e)
   (q02 (q0a (i:=5) scWord.nd rfl (Or.inl rfl) (q1h q5d (by rfl) T.list q39 (q00 (pv 3) q04)))
   (q02 (ps_try (i:=6) rfl rfl rfl (fun pn σ₀ E=>q06 (q11 (q0p q2z (pv 0) q07 (q0u _)) (q06 (q0q (q4j GD r6 (by rfl) mD kD bD .nil q7r (q00 (pv 1) (q00 (pv 2) (q00 (pv 5) q04)))))) (q06 (q0q (q4j GC hr (by rfl) mC kC bC .nil q7r (q00 (pv 1) (q00 (pv 2) (q00 (pv 5) q04))))))))
    (fun v=>q06 (q0a (i:=4) scWord.nd rfl (Or.inl rfl) (pv 6))) scWord.nd rfl rfl (by rfl) T.mgCE T.nmE)
   (q02 (q11 (q0p (op_neD hu) (pv 5) (pv 3) (q0u _)) (q06 (q0i q0x)) q0f)
   (q02 (q11 (q4m (z19 (pv 4))) (q06 (q0i q0x)) q0f)
   (q02 (q11 (q1t (q0b q3h (by rfl) T.isi q1b (q00 (pv 4) (q00 (q1u (q00 (q0l (v:=.ref a1) (by rfl) g1 (by rfl)) (q00 (q0l (v:=.ref a2) (by rfl) g2 (by rfl)) (q00 (q0l (v:=.ref a3) (by rfl) g3 (by rfl)) (q00 (q0l (v:=.ref a4) (by rfl) g4 (by rfl)) (q00 (q0l (v:=.ref a5) (by rfl) g5 (by rfl)) (q00 (q0l (v:=.ref a6) (by rfl) g6 (by rfl)) (q00 (q0l (v:=.ref a7) (by rfl) g7 (by rfl)) (q00 (q0l (v:=.ref a8) (by rfl) g8 (by rfl)) q04))))))))) q04)))) (q06 (q0i q0x)) q0f)
   (q02 (q11 (pw_or (q1t (q0b q3h (by rfl) T.isi q1b (q00 (pv 4) (q00 (q1u (q00 (q0l (v:=.ref z1) (by rfl) h1 (by rfl)) (q00 (q0l (v:=.ref z2) (by rfl) h2 (by rfl)) (q00 (q0l (v:=.ref z3) (by rfl) h3 (by rfl)) q04)))) q04)))) (pw_or1 (q32 (q1t (q0b q1j (by rfl) T.isi q1b (q00 (pv 4) (q00 (pe_bltn (v:=.ty "ValueError") (by rfl) T.verr q8i (by rfl)) q04))))))).pt (q06 (q0i q0x)) q0f)
   (q02 (q0a (i:=7) scWord.nd rfl (Or.inl rfl) (q7z (pv 4) T.askL hf2 ht2 k2 G2 r1 b2 .nil q1a))
   (q02 (q11 (q4z (q1t (q0b q1j (by rfl) T.isi q1b (q00 (pv 4) (q00 (q0l (v:=.ref CS) (by rfl) T.mgTS (by rfl)) q04)))) (q4z (q32 (q1t (q0b q1j (by rfl) T.isi q1b (q00 (pv 4) (q00 (q0l (v:=.ref CQ) (by rfl) T.mgTL (by rfl)) q04))))) (q7m (q0p q2z (pv 7) q0x (q0u _))))).pt (q06 (q0i q0x)) q0f)
   (q02 (q11 (q4z (q1t (q0b q1j (by rfl) T.isi q1b (q00 (pv 4) (q00 (q0l (v:=.ref CQ) (by rfl) T.mgTL (by rfl)) q04)))) (q4z (q32 (q1t (q0b q1j (by rfl) T.isi q1b (q00 (pv 4) (q00 (q0l (v:=.ref CS) (by rfl) T.mgTS (by rfl)) q04))))) (q7m (q0p q2z (pv 7) q0x (q0u _))))).pt (q06 (q0i q0x)) q0f)
   (q06 (q0i q0x))))))))))),?_⟩
   try dsimp only [cx_of,cx_nox,cx_comp]
   refine ⟨_,rfl,lw,_,rfl,.inl (SqL.of hw),fun lh hlh=>?_⟩
   have u0:=Same.rfl'.new hlh (o:=.lst (ws.map V.int))
   have hh:LI (upd H lh (.lst (ws.map V.int))) lh ws:=q01
   generalize upd H lh (.lst (ws.map V.int))=H0 at u0 hh
   refine ⟨_,rfl,rfl,_,rfl,?_⟩
   rw [q25]
   rcases hway with rfl | rfl
   ·rw [decide_eq_true rfl]
    refine iteT ⟨rfl,_,rfl,_,rfl,_,rfl,p,l2,lh,r,ys,ps,c,ws,rfl,ht.same u0,hp.same u0,hft,hh,by omega,fun _ d1 d2=>absurd (And.intro d1 d2) hc,fun h=>absurd (ha.symm.trans h) (by decide),fun _ _ H1 s1=>?_⟩
    refine ⟨CQ,rfl,T.subL,fun e he=>⟨_,rfl,?_⟩⟩
    have t1:Same H1 (upd H1 e (excO e (.ref CQ))):=Same.rfl'.new he
    have he1:(upd H1 e (excO e (.ref CQ))) e=some (excO e (.ref CQ)):=q01
    generalize upd H1 e (excO e (.ref CQ))=H2 at t1 he1
    have s02:=u0.tr (s1.tr t1)
    refine ⟨_,rfl,_,rfl,_,_,q1m (t1 _ _ (s1 _ _ hh)),q1m (s02 _ _ hw),q26 _,q26 _,_,rfl,?_⟩
    rw [q2p,decide_eq_true rfl]
    refine iteF ⟨_,rfl,_,rfl,?_⟩
    rw [show decide (V.ref e=V.non)=false from rfl]
    refine iteF ⟨_,rfl,by show 8≤sizeLine;decide,fun t4 ht4=>?_⟩
    have u4:Same H2 (upd H2 t4 (.tup [.ref a1,.ref a2,.ref a3,.ref a4,.ref a5,.ref a6,.ref a7,.ref a8])):=Same.rfl'.new ht4
    have ht4v:(upd H2 t4 (.tup [.ref a1,.ref a2,.ref a3,.ref a4,.ref a5,.ref a6,.ref a7,.ref a8])) t4=some (.tup [.ref a1,.ref a2,.ref a3,.ref a4,.ref a5,.ref a6,.ref a7,.ref a8]):=q01
    have he4:=u4 _ _ he1
    generalize upd H2 t4 (.tup [.ref a1,.ref a2,.ref a3,.ref a4,.ref a5,.ref a6,.ref a7,.ref a8])=H4 at u4 he4 ht4v
    refine ⟨e,CQ,t4,_,[.ref a1,.ref a2,.ref a3,.ref a4,.ref a5,.ref a6,.ref a7,.ref a8],false,rfl,ht4v,p8,he4,T.askL,fL8,_,rfl,?_⟩
    refine iteF ⟨_,rfl,by show 3≤sizeLine;decide,fun t5 ht5=>?_⟩
    have u5:Same H4 (upd H4 t5 (.tup [.ref z1,.ref z2,.ref z3])):=Same.rfl'.new ht5
    have ht5v:(upd H4 t5 (.tup [.ref z1,.ref z2,.ref z3])) t5=some (.tup [.ref z1,.ref z2,.ref z3]):=q01
    have he5:=u5 _ _ he4
    generalize upd H4 t5 (.tup [.ref z1,.ref z2,.ref z3])=H5 at u5 he5 ht5v
    refine ⟨e,CQ,t5,_,[.ref z1,.ref z2,.ref z3],false,rfl,ht5v,p3,he5,T.askL,fL3,_,rfl,?_⟩
    refine iteF ⟨_,rfl,e,CQ,_,_,_,rfl,rfl,he5,T.askL,T.lV,_,rfl,?_⟩
    refine iteF ⟨_,rfl,e,rfl,he5,_,rfl,?_⟩
    refine ⟨_,rfl,e,CQ,_,_,_,rfl,rfl,he5,T.askL,T.lS,_,rfl,?_⟩
    refine iteF (iteF ⟨_,rfl,e,CQ,_,_,_,rfl,rfl,he5,T.askL,q54 _,_,rfl,?_⟩)
    refine iteT ⟨_,rfl,e,CQ,_,_,_,rfl,rfl,he5,T.askL,T.lS,_,rfl,?_⟩
    refine iteT ⟨_,rfl,rfl,_,rfl,?_⟩
    rw [decide_eq_true rfl]
    exact iteT (kQ _ (s02.tr (u4.tr u5)))
   ·rw [decide_eq_false (by decide)]
    refine iteF ⟨rfl,_,rfl,_,rfl,_,rfl,p,l2,lh,r,ys,ps,c,ws,rfl,ht.same u0,hp.same u0,hft,hh,by omega,fun _ d1 d2=>absurd (And.intro d1 d2) hc,fun h=>absurd (ha.symm.trans h) (by decide),fun _ _ H1 s1=>?_⟩
    refine ⟨CQ,rfl,T.subL,fun e he=>⟨_,rfl,?_⟩⟩
    have t1:Same H1 (upd H1 e (excO e (.ref CQ))):=Same.rfl'.new he
    have he1:(upd H1 e (excO e (.ref CQ))) e=some (excO e (.ref CQ)):=q01
    generalize upd H1 e (excO e (.ref CQ))=H2 at t1 he1
    have s02:=u0.tr (s1.tr t1)
    refine ⟨_,rfl,_,rfl,_,_,q1m (t1 _ _ (s1 _ _ hh)),q1m (s02 _ _ hw),q26 _,q26 _,_,rfl,?_⟩
    rw [q2p,decide_eq_true rfl]
    refine iteF ⟨_,rfl,_,rfl,?_⟩
    rw [show decide (V.ref e=V.non)=false from rfl]
    refine iteF ⟨_,rfl,by show 8≤sizeLine;decide,fun t4 ht4=>?_⟩
    have u4:Same H2 (upd H2 t4 (.tup [.ref a1,.ref a2,.ref a3,.ref a4,.ref a5,.ref a6,.ref a7,.ref a8])):=Same.rfl'.new ht4
    have ht4v:(upd H2 t4 (.tup [.ref a1,.ref a2,.ref a3,.ref a4,.ref a5,.ref a6,.ref a7,.ref a8])) t4=some (.tup [.ref a1,.ref a2,.ref a3,.ref a4,.ref a5,.ref a6,.ref a7,.ref a8]):=q01
    have he4:=u4 _ _ he1
    generalize upd H2 t4 (.tup [.ref a1,.ref a2,.ref a3,.ref a4,.ref a5,.ref a6,.ref a7,.ref a8])=H4 at u4 he4 ht4v
    refine ⟨e,CQ,t4,_,[.ref a1,.ref a2,.ref a3,.ref a4,.ref a5,.ref a6,.ref a7,.ref a8],false,rfl,ht4v,p8,he4,T.askL,fL8,_,rfl,?_⟩
    refine iteF ⟨_,rfl,by show 3≤sizeLine;decide,fun t5 ht5=>?_⟩
    have u5:Same H4 (upd H4 t5 (.tup [.ref z1,.ref z2,.ref z3])):=Same.rfl'.new ht5
    have ht5v:(upd H4 t5 (.tup [.ref z1,.ref z2,.ref z3])) t5=some (.tup [.ref z1,.ref z2,.ref z3]):=q01
    have he5:=u5 _ _ he4
    generalize upd H4 t5 (.tup [.ref z1,.ref z2,.ref z3])=H5 at u5 he5 ht5v
    refine ⟨e,CQ,t5,_,[.ref z1,.ref z2,.ref z3],false,rfl,ht5v,p3,he5,T.askL,fL3,_,rfl,?_⟩
    refine iteF ⟨_,rfl,e,CQ,_,_,_,rfl,rfl,he5,T.askL,T.lV,_,rfl,?_⟩
    refine iteF ⟨_,rfl,e,rfl,he5,_,rfl,?_⟩
    refine ⟨_,rfl,e,CQ,_,_,_,rfl,rfl,he5,T.askL,T.lS,_,rfl,?_⟩
    refine iteF (iteF ⟨_,rfl,e,CQ,_,_,_,rfl,rfl,he5,T.askL,q54 _,_,rfl,?_⟩)
    refine iteT ⟨_,rfl,e,CQ,_,_,_,rfl,rfl,he5,T.askL,T.lS,_,rfl,?_⟩
    refine iteT ⟨_,rfl,rfl,_,rfl,?_⟩
    rw [decide_eq_true rfl]
    exact iteT (kQ _ (s02.tr (u4.tr u5)))
  refine ⟨_,q02 (q0a (i:=4) scWord.nd rfl (Or.inl rfl) q6e)
   (q02 (q0a (i:=5) scWord.nd rfl (Or.inl rfl) (q1h q5d (by rfl) T.list q39 (q00 (pv 3) q04)))
   (q02 (ps_try (i:=6) rfl rfl rfl (fun pn σ₀ E=>q06 (q11 (q0p q2z (pv 0) q07 (q0u _)) (q06 (q0q (q4j GD r6 (by rfl) mD kD bD .nil q7r (q00 (pv 1) (q00 (pv 2) (q00 (pv 5) q04)))))) (q06 (q0q (q4j GC hr (by rfl) mC kC bC .nil q7r (q00 (pv 1) (q00 (pv 2) (q00 (pv 5) q04))))))))
    (fun v=>q06 (q0a (i:=4) scWord.nd rfl (Or.inl rfl) (pv 6))) scWord.nd rfl rfl (by rfl) T.mgCE T.nmE)
   (q02 (q11 (q0p (op_neD hu) (pv 5) (pv 3) (q0u _)) (q06 (q0i q0x)) q0f)
   (q02 (q11 (q4m (z19 (pv 4))) (q06 (q0i q0x)) q0f)
   (q02 (q11 (q1t (q0b q3h (by rfl) T.isi q1b (q00 (pv 4) (q00 (q1u (q00 (q0l (v:=.ref a1) (by rfl) g1 (by rfl)) (q00 (q0l (v:=.ref a2) (by rfl) g2 (by rfl)) (q00 (q0l (v:=.ref a3) (by rfl) g3 (by rfl)) (q00 (q0l (v:=.ref a4) (by rfl) g4 (by rfl)) (q00 (q0l (v:=.ref a5) (by rfl) g5 (by rfl)) (q00 (q0l (v:=.ref a6) (by rfl) g6 (by rfl)) (q00 (q0l (v:=.ref a7) (by rfl) g7 (by rfl)) (q00 (q0l (v:=.ref a8) (by rfl) g8 (by rfl)) q04))))))))) q04)))) (q06 (q0i q0x)) q0f)
   (q02 (q11 (pw_or (q1t (q0b q3h (by rfl) T.isi q1b (q00 (pv 4) (q00 (q1u (q00 (q0l (v:=.ref z1) (by rfl) h1 (by rfl)) (q00 (q0l (v:=.ref z2) (by rfl) h2 (by rfl)) (q00 (q0l (v:=.ref z3) (by rfl) h3 (by rfl)) q04)))) q04)))) (pw_or1 (q32 (q1t (q0b q1j (by rfl) T.isi q1b (q00 (pv 4) (q00 (pe_bltn (v:=.ty "ValueError") (by rfl) T.verr q8i (by rfl)) q04))))))).pt (q06 (q0i q0x)) q0f)
   (q02 (q0a (i:=7) scWord.nd rfl (Or.inl rfl) (q7z (pv 4) T.askS hf1 ht1 k1 G1 r1 b1 .nil q1a))
   (q02 (q11 (q4z (q1t (q0b q1j (by rfl) T.isi q1b (q00 (pv 4) (q00 (q0l (v:=.ref CS) (by rfl) T.mgTS (by rfl)) q04)))) (q4z (q32 (q1t (q0b q1j (by rfl) T.isi q1b (q00 (pv 4) (q00 (q0l (v:=.ref CQ) (by rfl) T.mgTL (by rfl)) q04))))) (q7m (q0p q2z (pv 7) q0x (q0u _))))).pt (q06 (q0i q0x)) q0f)
   (q02 (q11 (q4z (q1t (q0b q1j (by rfl) T.isi q1b (q00 (pv 4) (q00 (q0l (v:=.ref CQ) (by rfl) T.mgTL (by rfl)) q04)))) (q4z (q32 (q1t (q0b q1j (by rfl) T.isi q1b (q00 (pv 4) (q00 (q0l (v:=.ref CS) (by rfl) T.mgTS (by rfl)) q04))))) (q7m (q0p q2z (pv 7) q0x (q0u _))))).pt (q06 (q0i q0x)) q0f)
   (q06 (q0i q0x))))))))))),?_⟩
  try dsimp only [cx_of,cx_nox,cx_comp]
  refine ⟨_,rfl,lw,_,rfl,.inl (SqL.of hw),fun lh hlh=>?_⟩
  have u0:=Same.rfl'.new hlh (o:=.lst (ws.map V.int))
  have hh:LI (upd H lh (.lst (ws.map V.int))) lh ws:=q01
  generalize upd H lh (.lst (ws.map V.int))=H0 at u0 hh
  refine ⟨_,rfl,rfl,_,rfl,?_⟩
  rw [q25]
  rcases hway with rfl | rfl
  ·rw [decide_eq_true rfl]
   cases ha:q0s ws ps.length with
   | false=>
    rw [ha,show q2f false c = "BadWages" from rfl] at kQ
    refine iteT ⟨rfl,_,rfl,_,rfl,_,rfl,p,l2,lh,r,ys,ps,c,ws,rfl,ht.same u0,hp.same u0,hft,hh,by omega,fun h=>absurd (ha.symm.trans h) (by decide),fun _ H1 s1=>?_,fun h=>absurd (ha.symm.trans h) (by decide)⟩
    refine ⟨CS,rfl,T.subS,fun e he=>⟨_,rfl,?_⟩⟩
    have t1:Same H1 (upd H1 e (excO e (.ref CS))):=Same.rfl'.new he
    have he1:(upd H1 e (excO e (.ref CS))) e=some (excO e (.ref CS)):=q01
    generalize upd H1 e (excO e (.ref CS))=H2 at t1 he1
    have s02:=u0.tr (s1.tr t1)
    refine ⟨_,rfl,_,rfl,_,_,q1m (t1 _ _ (s1 _ _ hh)),q1m (s02 _ _ hw),q26 _,q26 _,_,rfl,?_⟩
    rw [q2p,decide_eq_true rfl]
    refine iteF ⟨_,rfl,_,rfl,?_⟩
    rw [show decide (V.ref e=V.non)=false from rfl]
    refine iteF ⟨_,rfl,by show 8≤sizeLine;decide,fun t4 ht4=>?_⟩
    have u4:Same H2 (upd H2 t4 (.tup [.ref a1,.ref a2,.ref a3,.ref a4,.ref a5,.ref a6,.ref a7,.ref a8])):=Same.rfl'.new ht4
    have ht4v:(upd H2 t4 (.tup [.ref a1,.ref a2,.ref a3,.ref a4,.ref a5,.ref a6,.ref a7,.ref a8])) t4=some (.tup [.ref a1,.ref a2,.ref a3,.ref a4,.ref a5,.ref a6,.ref a7,.ref a8]):=q01
    have he4:=u4 _ _ he1
    generalize upd H2 t4 (.tup [.ref a1,.ref a2,.ref a3,.ref a4,.ref a5,.ref a6,.ref a7,.ref a8])=H4 at u4 he4 ht4v
    refine ⟨e,CS,t4,_,[.ref a1,.ref a2,.ref a3,.ref a4,.ref a5,.ref a6,.ref a7,.ref a8],false,rfl,ht4v,p8,he4,T.askS,fS8,_,rfl,?_⟩
    refine iteF ⟨_,rfl,by show 3≤sizeLine;decide,fun t5 ht5=>?_⟩
    have u5:Same H4 (upd H4 t5 (.tup [.ref z1,.ref z2,.ref z3])):=Same.rfl'.new ht5
    have ht5v:(upd H4 t5 (.tup [.ref z1,.ref z2,.ref z3])) t5=some (.tup [.ref z1,.ref z2,.ref z3]):=q01
    have he5:=u5 _ _ he4
    generalize upd H4 t5 (.tup [.ref z1,.ref z2,.ref z3])=H5 at u5 he5 ht5v
    refine ⟨e,CS,t5,_,[.ref z1,.ref z2,.ref z3],false,rfl,ht5v,p3,he5,T.askS,fS3,_,rfl,?_⟩
    refine iteF ⟨_,rfl,e,CS,_,_,_,rfl,rfl,he5,T.askS,T.sV,_,rfl,?_⟩
    refine iteF ⟨_,rfl,e,rfl,he5,_,rfl,?_⟩
    refine ⟨_,rfl,e,CS,_,_,_,rfl,rfl,he5,T.askS,q54 _,_,rfl,?_⟩
    refine iteT ⟨_,rfl,e,CS,_,_,_,rfl,rfl,he5,T.askS,T.sL,_,rfl,?_⟩
    refine iteT ⟨_,rfl,rfl,_,rfl,?_⟩
    rw [decide_eq_true rfl]
    exact iteT (kQ _ (s02.tr (u4.tr u5)))
   | true=>
    have hc:1≤c∧c≤60:=Classical.byContradiction fun z=>hL ⟨ha,z⟩
    rw [ha,show q2f true c = "told" from by unfold q2f;rw [if_neg (by decide),if_pos hc]] at kQ
    refine iteT ⟨rfl,_,rfl,_,rfl,_,rfl,p,l2,lh,r,ys,ps,c,ws,rfl,ht.same u0,hp.same u0,hft,hh,by omega,fun _ _ _ H1 _ s1=>?_,fun h=>absurd (ha.symm.trans h) (by decide),fun _ h=>absurd hc h⟩
    refine ⟨_,rfl,_,rfl,_,_,q1m (s1 _ _ hh),q1m ((u0.tr s1) _ _ hw),q26 _,q26 _,_,rfl,?_⟩
    rw [q2p,decide_eq_true rfl]
    refine iteF ⟨_,rfl,_,rfl,?_⟩
    exact iteT (kQ _ (u0.tr s1))
  ·rw [decide_eq_false (by decide)]
   cases ha:q0s ws ps.length with
   | false=>
    rw [ha,show q2f false c = "BadWages" from rfl] at kQ
    refine iteF ⟨rfl,_,rfl,_,rfl,_,rfl,p,l2,lh,r,ys,ps,c,ws,rfl,ht.same u0,hp.same u0,hft,hh,by omega,fun h=>absurd (ha.symm.trans h) (by decide),fun _ H1 s1=>?_,fun h=>absurd (ha.symm.trans h) (by decide)⟩
    refine ⟨CS,rfl,T.subS,fun e he=>⟨_,rfl,?_⟩⟩
    have t1:Same H1 (upd H1 e (excO e (.ref CS))):=Same.rfl'.new he
    have he1:(upd H1 e (excO e (.ref CS))) e=some (excO e (.ref CS)):=q01
    generalize upd H1 e (excO e (.ref CS))=H2 at t1 he1
    have s02:=u0.tr (s1.tr t1)
    refine ⟨_,rfl,_,rfl,_,_,q1m (t1 _ _ (s1 _ _ hh)),q1m (s02 _ _ hw),q26 _,q26 _,_,rfl,?_⟩
    rw [q2p,decide_eq_true rfl]
    refine iteF ⟨_,rfl,_,rfl,?_⟩
    rw [show decide (V.ref e=V.non)=false from rfl]
    refine iteF ⟨_,rfl,by show 8≤sizeLine;decide,fun t4 ht4=>?_⟩
    have u4:Same H2 (upd H2 t4 (.tup [.ref a1,.ref a2,.ref a3,.ref a4,.ref a5,.ref a6,.ref a7,.ref a8])):=Same.rfl'.new ht4
    have ht4v:(upd H2 t4 (.tup [.ref a1,.ref a2,.ref a3,.ref a4,.ref a5,.ref a6,.ref a7,.ref a8])) t4=some (.tup [.ref a1,.ref a2,.ref a3,.ref a4,.ref a5,.ref a6,.ref a7,.ref a8]):=q01
    have he4:=u4 _ _ he1
    generalize upd H2 t4 (.tup [.ref a1,.ref a2,.ref a3,.ref a4,.ref a5,.ref a6,.ref a7,.ref a8])=H4 at u4 he4 ht4v
    refine ⟨e,CS,t4,_,[.ref a1,.ref a2,.ref a3,.ref a4,.ref a5,.ref a6,.ref a7,.ref a8],false,rfl,ht4v,p8,he4,T.askS,fS8,_,rfl,?_⟩
    refine iteF ⟨_,rfl,by show 3≤sizeLine;decide,fun t5 ht5=>?_⟩
    have u5:Same H4 (upd H4 t5 (.tup [.ref z1,.ref z2,.ref z3])):=Same.rfl'.new ht5
    have ht5v:(upd H4 t5 (.tup [.ref z1,.ref z2,.ref z3])) t5=some (.tup [.ref z1,.ref z2,.ref z3]):=q01
    have he5:=u5 _ _ he4
    generalize upd H4 t5 (.tup [.ref z1,.ref z2,.ref z3])=H5 at u5 he5 ht5v
    refine ⟨e,CS,t5,_,[.ref z1,.ref z2,.ref z3],false,rfl,ht5v,p3,he5,T.askS,fS3,_,rfl,?_⟩
    refine iteF ⟨_,rfl,e,CS,_,_,_,rfl,rfl,he5,T.askS,T.sV,_,rfl,?_⟩
    refine iteF ⟨_,rfl,e,rfl,he5,_,rfl,?_⟩
    refine ⟨_,rfl,e,CS,_,_,_,rfl,rfl,he5,T.askS,q54 _,_,rfl,?_⟩
    refine iteT ⟨_,rfl,e,CS,_,_,_,rfl,rfl,he5,T.askS,T.sL,_,rfl,?_⟩
    refine iteT ⟨_,rfl,rfl,_,rfl,?_⟩
    rw [decide_eq_true rfl]
    exact iteT (kQ _ (s02.tr (u4.tr u5)))
   | true=>
    have hc:1≤c∧c≤60:=Classical.byContradiction fun z=>hL ⟨ha,z⟩
    rw [ha,show q2f true c = "told" from by unfold q2f;rw [if_neg (by decide),if_pos hc]] at kQ
    refine iteF ⟨rfl,_,rfl,_,rfl,_,rfl,p,l2,lh,r,ys,ps,c,ws,rfl,ht.same u0,hp.same u0,hft,hh,by omega,fun _ _ _ H1 _ s1=>?_,fun h=>absurd (ha.symm.trans h) (by decide),fun _ h=>absurd hc h⟩
    refine ⟨_,rfl,_,rfl,_,_,q1m (s1 _ _ hh),q1m ((u0.tr s1) _ _ hw),q26 _,q26 _,_,rfl,?_⟩
    rw [q2p,decide_eq_true rfl]
    refine iteF ⟨_,rfl,_,rfl,?_⟩
    exact iteT (kQ _ (u0.tr s1))
theorem am_len {bs:List Int} {n:Nat} (h:bs.length≠n):q0s bs n=false:=by
 cases h':q0s bs n with
 | false=>rfl
 | true=>exact absurd (q2x h').1 h
theorem am_bad {bs:List Int} {n:Nat} {x:Int} (hx:x∈bs) (h:¬ (0≤x∧x≤10 ^ 60)):q0s bs n=false:=by
 cases h':q0s bs n with
 | false=>rfl
 | true=>exact absurd ((q2x h').2 x hx) h
inductive spSpoiltI  (vs:List V) (H:Hp) (Q:VK) (E:XK):Prop
 | mk (lw dn dl:Addr) (ws cs ls:List Int) (fault:Int):(vs=[.ref lw,.int fault,.ref dn,.ref dl])→(0≤fault)→(fault≤4)→(LI H lw ws)→(1≤ws.length)→(ws.length≤60)→(LI H dn cs)→(cs.length=63)→(LI H dl ls)→(ls.length=55)→((∀ x∈ls,0≤x))→(∀ (H':Hp) (d:Addr) (bs:List Int),Same H H'→LI H' d bs→bs.length≤61→(fault=0→bs=ws)→(0 < fault→q0s bs ws.length=false)→Q (.ref d) H')→spSpoiltI  vs H Q E
def z1o  : Sp:=fun vs H Q E=>spSpoiltI  vs H Q E
theorem scSpoilt:FnScope ["wages", "fault", "numbers", "large", "made", "at"] ["wages", "fault", "numbers", "large"] (q03 q4u):=⟨rfl,rfl,rfl,by decide +kernel,rfl,by decide +kernel,by decide +kernel⟩
theorem ok_spoilt {f:Addr} {fd:FuncData} (T:Txt K mg CE CS CQ CT) (F:Fun K "_law_spoilt" "_law_spoilt" q4u f fd):FnOk P w K mg base CX0 1 f fd ["wages", "fault", "numbers", "large"] z1o:=by
 refine F.ok scSpoilt (fun vs H Q E h=>?_) (fun cdv A outer s H vs Q E hr h=>?_)
 ·obtain ⟨lw,dn,dl,ws,cs,ls,fault,rfl,_⟩:=h
  rfl
 ·obtain ⟨lw,dn,dl,ws,cs,ls,fault,rfl,hf0,hf4,hw,hw1,hw60,hdn,hcl,hdl,hll,hls,kQ⟩:=h
  refine ⟨_,q02 (q0a (i:=4) scSpoilt.nd rfl (Or.inl rfl) (q1h q5d (by rfl) T.list q39 (q00 (pv 0) q04)))
   (q02 (q0a (i:=5) scSpoilt.nd rfl (Or.inl rfl) (q0o q13 (q0n q0g (pv 2) q07 (fun _ _=>rfl)) (q0b q48 (by rfl) T.len PySem.boot_len (q00 (pv 4) q04))))
   (q02 (q11 (q0p q2z (pv 1) q07 (q0u _)) (q06 (q0q (q3n PySem.F.plainAttrs_list PySem.F.slot_list_insert PySem.F.type_list_insert mt_insert (pv 4) (q00 (pv 5) (q00 (q0n q0g (pv 3) q07 (fun _ _=>rfl)) q04))))) q0f)
   (q02 (q11 (q0p q2z (pv 1) q07 (q0u _)) (q06 (q0q (q3n PySem.F.plainAttrs_list PySem.F.slot_list_pop PySem.F.type_list_pop mt_popAt (pv 4) (q00 (pv 5) q04)))) q0f)
   (q02 (q11 (q0p q2z (pv 1) q07 (q0u _)) (q06 (q6w (q0o q2c (q0o q2c (q0o q8h q07 q07) q07) (q0n q0g (q1q (q00 q07 (q00 (q0n q0g (pv 3) q07 (fun _ _=>rfl)) q04))) (q0o q13 (q0n q0g (pv 2) q07 (fun _ _=>rfl)) q07) (fun _ _=>rfl))) (q9d (pv 4) (pv 5) q4a))) q0f)
   (q02 (q11 (q0p q2z (pv 1) q07 (q0u _)) (q06 (q6w (q0o q61 (pe_un un_neg q07) (q0n q0g (q1q (q00 q07 (q00 (q0n q0g (pv 3) q07 (fun _ _=>rfl)) q04))) (q0o q13 (q0n q0g (pv 2) q07 (fun _ _=>rfl)) q07) (fun _ _=>rfl))) (q9d (pv 4) (pv 5) q4a))) q0f)
   (q06 (q0i (pv 4)))))))),?_⟩
  try dsimp only [cx_of,cx_nox,cx_comp]
  have cat:∀ j:Nat,(h:j < 63)→atI (cs.map V.int) (j:Int)=some (.int (cs[j]'(by omega))):=fun j h=>q09 (by rw [List.getElem?_map,List.getElem?_eq_getElem (by omega)];rfl)
  have l3:atI (ls.map V.int) (3:Int)=some (.int (ls[3]'(by omega))):=q09 (j:=3) (by rw [List.getElem?_map,List.getElem?_eq_getElem (by omega)];rfl)
  have l30:0≤ls[3]'(by omega):=hls _ (List.getElem_mem _)
  refine ⟨_,rfl,lw,_,rfl,.inl (SqL.of hw),fun d hd=>?_⟩
  have u0:=Same.rfl'.new hd (o:=.lst (ws.map V.int))
  have hD:LI (upd H d (.lst (ws.map V.int))) d ws:=q01
  generalize upd H d (.lst (ws.map V.int))=H0 at u0 hD
  refine ⟨_,rfl,dn,_,_,_,rfl,rfl,SqL.of (u0 _ _ hdn),cat 6 (by omega),_,rfl,d,_,rfl,.inl (SqL.of hD),_,_,rfl,rfl,(by rw [List.length_map];omega),?_⟩
  rw [List.length_map]
  obtain ⟨k,hk,ek⟩:∃ k:Nat,k < ws.length∧(cs[6]'(by omega)) % (ws.length:Int)=(k:Int):=⟨((cs[6]'(by omega)) % (ws.length:Int)).toNat,by
   have:=Int.emod_lt_of_pos (cs[6]'(by omega)) (show (0:Int) < (ws.length:Int) by omega)
   have:=Int.emod_nonneg (cs[6]'(by omega)) (show (ws.length:Int)≠0 by omega)
   omega,by
   have:=Int.emod_nonneg (cs[6]'(by omega)) (show (ws.length:Int)≠0 by omega)
   omega⟩
  show q7u 5 (V.int ((cs[6]'(by omega)) % (ws.length:Int))) _ _ _
  rw [ek]
  have old:∀ (o:HO),Same H (upd H0 d o):=fun o b x e=>by rw [q08 (q05 e hd)];exact u0 _ _ e
  have dn0:=u0 _ _ hdn
  have dl0:=u0 _ _ hdl
  obtain ⟨j,hj2,ej⟩:∃ j:Nat,j < 2∧(cs[7]'(by omega)) % 2=(j:Int):=⟨((cs[7]'(by omega)) % 2).toNat,by omega,by omega⟩
  obtain ⟨y,hy,hy0⟩:∃ y:Int,([.int 0,.int (ls[3]'(by omega))]:List V)[j]?=some (.int y)∧0≤y:=by
   match j,hj2 with
   | 0,_=>exact ⟨0,rfl,Int.le_refl _⟩
   | 1,_=>exact ⟨_,rfl,l30⟩
  have gj:atI ([.int 0,.int (ls[3]'(by omega))]:List V) ((cs[7]'(by omega)) % 2)=some (.int y):=by
   rw [ej]
   exact q09 hy
  have no:∀ {a b:Int},a≠b→decide (V.int a=V.int b)=false:=fun h=>by rw [q25];exact decide_eq_false h
  have yes:∀ {a:Int},decide (V.int a=V.int a)=true:=fun {a}=>decide_eq_true rfl
  have hfs:fault=0∨fault=1∨fault=2∨fault=3∨fault=4:=by omega
  rcases hfs with rfl | rfl | rfl | rfl | rfl
  ·refine ⟨_,rfl,rfl,_,rfl,?_⟩
   rw [no (by decide)]
   refine iteF ⟨_,rfl,rfl,_,rfl,?_⟩
   rw [no (by decide)]
   refine iteF ⟨_,rfl,rfl,_,rfl,?_⟩
   rw [no (by decide)]
   refine iteF ⟨_,rfl,rfl,_,rfl,?_⟩
   rw [no (by decide)]
   exact iteF ⟨_,rfl,kQ _ d ws u0 hD (by omega) (fun _=>rfl) (fun h=>absurd h (by omega))⟩
  ·refine ⟨_,rfl,rfl,_,rfl,?_⟩
   rw [yes]
   refine iteT ⟨_,rfl,.inl ⟨rfl,_,SqL.of hD⟩,_,rfl,_,rfl,dl,_,_,_,rfl,rfl,SqL.of dl0,l3,d,_,k,_,rfl,rfl,hD,by rw [List.length_map];omega,by rw [List.length_map];omega,?_⟩
   refine ⟨_,rfl,rfl,_,rfl,?_⟩
   rw [no (by decide)]
   refine iteF ⟨_,rfl,rfl,_,rfl,?_⟩
   rw [no (by decide)]
   refine iteF ⟨_,rfl,rfl,_,rfl,?_⟩
   rw [no (by decide)]
   refine iteF ⟨_,rfl,kQ _ d (ws.take k++ls[3]'(by omega)::ws.drop k) (old _) ?_ ?_ (fun h=>absurd h (by decide)) fun _=>am_len ?_⟩
   ·rw [LI,q01,List.map_append,List.map_cons,List.map_take,List.map_drop]
   ·rw [List.length_append,List.length_cons,List.length_take,List.length_drop];omega
   ·rw [List.length_append,List.length_cons,List.length_take,List.length_drop];omega
  ·refine ⟨_,rfl,rfl,_,rfl,?_⟩
   rw [no (by decide)]
   refine iteF ⟨_,rfl,rfl,_,rfl,?_⟩
   rw [yes]
   refine iteT ⟨_,rfl,.inl ⟨rfl,_,SqL.of hD⟩,_,rfl,d,_,_,k,_,rfl,rfl,hD,by omega,by omega,(z00 (q6v (by rw [List.length_map];exact hk))).1,by rw [List.getElem?_map,List.getElem?_eq_getElem hk];rfl,?_⟩
   refine ⟨_,rfl,rfl,_,rfl,?_⟩
   rw [no (by decide)]
   refine iteF ⟨_,rfl,rfl,_,rfl,?_⟩
   rw [no (by decide)]
   refine iteF ⟨_,rfl,kQ _ d (ws.eraseIdx k) (old _) ?_ ?_ (fun h=>absurd h (by decide)) fun _=>am_len ?_⟩
   ·rw [LI,q01,erase_map]
   ·rw [List.length_eraseIdx_of_lt hk];omega
   ·rw [List.length_eraseIdx_of_lt hk];omega
  ·refine ⟨_,rfl,rfl,_,rfl,?_⟩
   rw [no (by decide)]
   refine iteF ⟨_,rfl,rfl,_,rfl,?_⟩
   rw [no (by decide)]
   refine iteF ⟨_,rfl,rfl,_,rfl,?_⟩
   rw [yes]
   refine iteT ⟨_,_,rfl,rfl,cpow60,_,_,rfl,rfl,_,rfl,dl,_,_,_,rfl,rfl,SqL.of dl0,l3,by show 2≤sizeLine;decide,fun t ht=>?_⟩
   have ut:=Same.rfl'.new ht (o:=.lst [.int 0,.int (ls[3]'(by omega))])
   have htv:(upd H0 t (.lst [.int 0,.int (ls[3]'(by omega))])) t=some (.lst [.int 0,.int (ls[3]'(by omega))]):=q01
   have sD:=ut _ _ hD
   have old2:∀ (o:HO),Same H (upd (upd H0 t (.lst [.int 0,.int (ls[3]'(by omega))])) d o):=fun o b x e=>by rw [q08 (q05 e hd)];exact ut _ _ (u0 _ _ e)
   generalize upd H0 t (.lst [.int 0,.int (ls[3]'(by omega))])=H1 at ut htv sD old2
   refine ⟨_,rfl,dn,_,_,_,rfl,rfl,SqL.of (ut _ _ dn0),cat 7 (by omega),_,_,rfl,rfl,(by show (0:Int) < 2;decide),t,_,_,_,rfl,rfl,SqL.of htv,gj,_,_,rfl,rfl,?_⟩
   refine ⟨_,rfl,_,rfl,d,_,_,k,rfl,rfl,sD,q6v (by rw [List.length_map];exact hk),?_⟩
   refine ⟨_,rfl,rfl,_,rfl,?_⟩
   rw [no (by decide)]
   refine iteF ⟨_,rfl,kQ _ d (ws.set k (10 ^ (60:Int).toNat+1+y)) (old2 _) ?_ ?_ (fun h=>absurd h (by decide)) fun _=>am_bad (x:=10 ^ (60:Int).toNat+1+y) ?_ fun h=>?_⟩
   ·rw [LI,q01,List.map_set]
   ·rw [List.length_set];omega
   ·exact List.mem_iff_getElem?.mpr ⟨k,by rw [List.getElem?_set_self hk]⟩
   ·have:(10:Int) ^ (60:Int).toNat+1+y≤10 ^ (60:Int).toNat:=h.2
    omega
  ·refine ⟨_,rfl,rfl,_,rfl,?_⟩
   rw [no (by decide)]
   refine iteF ⟨_,rfl,rfl,_,rfl,?_⟩
   rw [no (by decide)]
   refine iteF ⟨_,rfl,rfl,_,rfl,?_⟩
   rw [no (by decide)]
   refine iteF ⟨_,rfl,rfl,_,rfl,?_⟩
   rw [yes]
   refine iteT ⟨_,rfl,_,rfl,dl,_,_,_,rfl,rfl,SqL.of dl0,l3,by show 2≤sizeLine;decide,fun t ht=>?_⟩
   have ut:=Same.rfl'.new ht (o:=.lst [.int 0,.int (ls[3]'(by omega))])
   have htv:(upd H0 t (.lst [.int 0,.int (ls[3]'(by omega))])) t=some (.lst [.int 0,.int (ls[3]'(by omega))]):=q01
   have sD:=ut _ _ hD
   have old2:∀ (o:HO),Same H (upd (upd H0 t (.lst [.int 0,.int (ls[3]'(by omega))])) d o):=fun o b x e=>by rw [q08 (q05 e hd)];exact ut _ _ (u0 _ _ e)
   generalize upd H0 t (.lst [.int 0,.int (ls[3]'(by omega))])=H1 at ut htv sD old2
   refine ⟨_,rfl,dn,_,_,_,rfl,rfl,SqL.of (ut _ _ dn0),cat 7 (by omega),_,_,rfl,rfl,(by show (0:Int) < 2;decide),t,_,_,_,rfl,rfl,SqL.of htv,gj,_,_,rfl,rfl,?_⟩
   refine ⟨_,rfl,_,rfl,d,_,_,k,rfl,rfl,sD,q6v (by rw [List.length_map];exact hk),?_⟩
   refine ⟨_,rfl,kQ _ d (ws.set k (-1 - y)) (old2 _) ?_ ?_ (fun h=>absurd h (by decide)) fun _=>am_bad (x:=-1 - y) ?_ fun h=>?_⟩
   ·rw [LI,q01,List.map_set]
   ·rw [List.length_set];omega
   ·exact List.mem_iff_getElem?.mpr ⟨k,by rw [List.getElem?_set_self hk]⟩
   ·omega
end
end K28
namespace K28
open PySem L2 XM GM
theorem kit3 {K:W.Frag} {t a b c:Value} (h1:W.kitOne K t a=some false) (h2:W.kitOne K t b=some false) (h3:W.kitOne K t c=some false):W.kitAny K t [a,b,c]=some false:=q5a fun x hx=>by
 simp only [List.mem_cons,List.not_mem_nil,or_false] at hx
 rcases hx with rfl | rfl | rfl <;> assumption
theorem kit8 {K:W.Frag} {t k0 k1 k2 k3 k4 k5 k6 k7:Value} (h0:W.kitOne K t k0=some false) (h1:W.kitOne K t k1=some false) (h2:W.kitOne K t k2=some false) (h3:W.kitOne K t k3=some false) (h4:W.kitOne K t k4=some false) (h5:W.kitOne K t k5=some false) (h6:W.kitOne K t k6=some false) (h7:W.kitOne K t k7=some false):W.kitAny K t [k0,k1,k2,k3,k4,k5,k6,k7]=some false:=q5a fun x hx=>by
 simp only [List.mem_cons,List.not_mem_nil,or_false] at hx
 rcases hx with rfl | rfl | rfl | rfl | rfl | rfl | rfl | rfl <;> assumption
theorem amounts_of {ws:List Int} {n:Nat} (h:ws.length=n) (h2:∀ x∈ws,0≤x∧x≤10 ^ 60):q0s ws n=true:=by
 unfold q0s
 rw [decide_eq_true h,Bool.true_and,List.all_eq_true]
 intro x hx
 obtain ⟨a,b⟩:=h2 x hx
 unfold amR
 rw [decide_eq_true a,decide_eq_true b]
 rfl
theorem okP01 {r:Nat} (h:1≤r):q0z ((r:Int)+1) (0,1)=true:=by
 unfold q0z
 simp;omega
structure Fs (P:Program) (w:World) (K:W.Frag) (mg:Str→Option Value) (base:Heap) (CT fI fN fL fT fS fW:Addr) (dI dN dL dT dS dW:FuncData):Prop where
 gI:FnOk P w K mg base CX0 4 fI dI ["self", "quarters", "bridges"] (spInit CT)
 bI:Binds K dI ["self", "quarters", "bridges"] []
 mkT:Mk K CT fI
 cN:Cal P w K mg base 1 "_law_numbers" fN dN ["script", "many"] (q8q K)
 cL:Cal P w K mg base 1 "_law_large" fL dL ["script", "many"] (spLarge K)
 cT:Cal P w K mg base 1 "_law_town" fT dT ["numbers", "most"] spTown
 cS:Cal P w K mg base 1 "_law_spoilt" fS dS ["wages", "fault", "numbers", "large"] z1o
 cW:Cal P w K mg base 9 "_law_word" fW dW ["way", "town", "crews", "wages"] (spWord CT)
theorem cpow59:CPow 10 59:=⟨by decide,by decide,by decide⟩
theorem lim59:(0:Int) < 10 ^ (59:Int).toNat:=by decide +kernel
theorem dueOf_eq {a:Bool} {c fault other:Int} (h1:0 < fault→a=false) (h2:¬ 0 < fault→a=true) (h3:0 < other→¬ (1≤c∧c≤60)) (h4:¬ 0 < other→1≤c∧c≤60):(if 0 < fault then ("BadWages" : Str) else if 0 < other then "BadCount" else "told")=q2f a c:=by
 unfold q2f
 by_cases hf:0 < fault
 ·rw [if_pos hf,h1 hf]
  rfl
 ·rw [if_neg hf,h2 hf]
  by_cases ho:0 < other
  ·rw [if_pos ho,if_neg (show ¬ (true=false) by decide),if_neg (h3 ho)]
  ·rw [if_neg ho,if_neg (show ¬ (true=false) by decide),if_pos (h4 ho)]
section
variable {P:Program} {w:World} {K:W.Frag} {mg:Str→Option Value} {base:Heap} {CE CS CQ CT:Addr}
inductive spLawI (K:W.Frag) (vs:List V) (H:Hp) (Q:VK) (E:XK):Prop
 | mk (a:Addr) (ns:List Int):(vs=[.ref a])→(SqL K H a (ns.map V.int))→(ns.length≤63)→(∀ H',Q (.bl true) H')→spLawI K vs H Q E
def spLaw (K:W.Frag):Sp:=fun vs H Q E=>spLawI K vs H Q E
theorem scLaw:FnScope ["script", "numbers", "large", "quarters", "pairs", "crews", "wages", "fault", "other", "bad", "odd", "due", "way", "town"] ["script"] (q03 sLaw):=⟨rfl,rfl,rfl,by decide +kernel,rfl,by decide +kernel,by decide +kernel⟩
theorem ok_law {f fI fN fL fT fS fW:Addr} {fd dI dN dL dT dS dW:FuncData} (T:Txt K mg CE CS CQ CT) (F:Fun K "law" "law" sLaw f fd) (S:Fs P w K mg base CT fI fN fL fT fS fW dI dN dL dT dS dW) :
  FnOk P w K mg base CX0 10 f fd ["script"] (spLaw K):=by
 refine F.ok scLaw (fun vs H Q E h=>?_) (fun cdv A outer s H vs Q E hr h=>?_)
 ·obtain ⟨a,ns,rfl,_⟩:=h
  rfl
 ·obtain ⟨sc,ns,rfl,hS,hn63,kQ⟩:=h
  have r1:=hr.mono (show 1≤9 by omega)
  have r5:=hr.mono (show 5≤9 by omega)
  have nd1:((["bridge"]:List Str)++(["large"]:List Str)).Nodup:=by decide +kernel
  refine ⟨_,q02 (q0a (i:=1) scLaw.nd rfl (Or.inl rfl) (q0h S.cN.ok r1 (by rfl) S.cN.nm S.cN.kp S.cN.bi .nil q1a (q00 (pv 0) (q00 q07 q04))))
   (q02 (q0a (i:=2) scLaw.nd rfl (Or.inr rfl) (q0h S.cL.ok r1 (by rfl) S.cL.nm S.cL.kp S.cL.bi .nil q1a (q00 (pv 0) (q00 q07 q04))))
   (q02 (q3r (q11 (q0p q2z (q0o q13 (q0n q0g (pv 1) q07 (fun _ _=>rfl)) q07) q07 (q0u _)) (q06 (q6w (q0o q2c q07 (q0o q13 (q0n q0g (pv 1) q07 (fun _ _=>rfl)) q07)) (q9d (pv 1) q07 q4a))) q0f))
   (q02 (q6w (q0h S.cT.ok r1 (by rfl) S.cT.nm S.cT.kp S.cT.bi .nil q1a (q00 (pv 1) (q00 q07 q04))) (q8c (n:=2) rfl (q1w (q0k (i:=3) scLaw.nd rfl (Or.inl rfl)) (q1w (q0k (i:=4) scLaw.nd rfl (Or.inl rfl)) q5l))))
   (q02 (q3r (q11 (q0p q2z (q0b q48 (by rfl) T.len PySem.boot_len (q00 (pv 4) q04)) q07 (q0u _)) (q06 (q0a (i:=4) scLaw.nd rfl (Or.inl rfl) (q1q (q00 (q1u (q00 q07 (q00 q07 q04))) q04)))) q0f))
   (q02 (q0a (i:=5) scLaw.nd rfl (Or.inl rfl) (q0o q2c q07 (q0o q13 (q0n q0g (pv 1) q07 (fun _ _=>rfl)) q07)))
   (q02 (q3r (q11 (q0p q2z (q0o q13 (q0n q0g (pv 1) q07 (fun _ _=>rfl)) q07) q07 (q0u _)) (q06 (q0a (i:=5) scLaw.nd rfl (Or.inl rfl) (q0o q2c q07 (q0o q13 (q0n q0g (pv 1) q07 (fun _ _=>rfl)) q07)))) q0f))
   (q02 (z0c (i:=6) (own:=["bridge"]) (caps:=["large"]) (cs:=[2]) (sc:=q03 sLaw) ⟨rfl,rfl,by decide +kernel,by decide +kernel,by decide +kernel,by decide +kernel,rfl⟩ rfl scLaw.nd rfl rfl rfl
    (q1i (by rfl) T.range (q00 (q0b q48 (by rfl) T.len PySem.boot_len (q00 (pv 4) q04)) q04)) (fun _ _ _ _ _=>q0k (i:=0) nd1 rfl (Or.inl rfl) (.inr rfl)) (fun _ _ _ _ _=>q3c) (fun _ _ _ _ _=>q0n q0g (pv 1) (pv 0) (fun _ _=>rfl)))
   (q02 (q0a (i:=7) scLaw.nd rfl (Or.inl rfl) (q0b (q8v rfl) (by rfl) T.max z0o (q00 q07 (q00 (q0o q61 (q0o q13 (q0n q0g (pv 1) q07 (fun _ _=>rfl)) q07) q07) q04))))
   (q02 (q0a (i:=8) scLaw.nd rfl (Or.inl rfl) (q0b (q8v rfl) (by rfl) T.max z0o (q00 q07 (q00 (q0o q61 (q0o q13 (q0n q0g (pv 1) q07 (fun _ _=>rfl)) q07) q07) q04))))
   (q02 (q0a (i:=9) scLaw.nd rfl (Or.inl rfl) (q0h S.cS.ok r1 (by rfl) S.cS.nm S.cS.kp S.cS.bi .nil q1a (q00 (pv 6) (q00 (pv 7) (q00 (pv 1) (q00 (pv 2) q04))))))
   (q02 (q0a (i:=10) scLaw.nd rfl (Or.inl rfl) (pv 5))
   (q02 (q3r (q11 (q0p op_gt (pv 8) q07 (q0u _)) (q06 (q0a (i:=10) scLaw.nd rfl (Or.inl rfl) (q0n q0g (q1q (q00 q07 (q00 q07 (q00 (q0o q2c q07 (q0o q13 (q0n q0g (pv 2) q07 (fun _ _=>rfl)) (q0o q8h q07 q07))) (q00 (q0o q61 (pe_un un_neg q07) (q0o q13 (q0n q0g (pv 2) q07 (fun _ _=>rfl)) (q0o q8h q07 q07))) q04))))) (q0o q61 (pv 8) q07) (fun _ _=>rfl)))) q0f))
   (q02 (q0a (i:=11) scLaw.nd rfl (Or.inl rfl) q0x)
   (q02 (q3r (q11 (q0p op_gt (pv 8) q07 (q0u _)) (q06 (q0a (i:=11) scLaw.nd rfl (Or.inl rfl) q0x)) q0f))
   (q02 (q3r (q11 (q0p op_gt (pv 7) q07 (q0u _)) (q06 (q0a (i:=11) scLaw.nd rfl (Or.inl rfl) q0x)) q0f))
   (q02 (q21 PassesOwn.never rfl (q1i (by rfl) T.range (q00 q07 q04)) (q0k (i:=12) scLaw.nd rfl (Or.inl rfl))
    (q02 (q0a (i:=13) scLaw.nd rfl (Or.inl rfl) (pe_make S.mkT S.gI r5 (by rfl) T.mgT S.bI .nil q1a (q00 (pv 3) (q00 (q1h q5d (by rfl) T.list q39 (q00 (pv 4) q04)) q04))))
    (q02 (q11 (q0p op_ne (q0h S.cW.ok hr (by rfl) S.cW.nm S.cW.kp S.cW.bi .nil q1a (q00 (pv 12) (q00 (pv 13) (q00 (pv 10) (q00 (pv 9) q04))))) (pv 11) (q0u _)) (q06 (q0i pe_bl)) q0f)
    (q06 (q11 (pw_or (q0p op_ne (q0h S.cW.ok hr (by rfl) S.cW.nm S.cW.kp S.cW.bi .nil q1a (q00 (pv 12) (q00 (pv 13) (q00 (pv 5) (q00 (pv 6) q04))))) q0x (q0u _)) (pw_or1 (q0p op_ne (q0h S.cW.ok hr (by rfl) S.cW.nm S.cW.kp S.cW.bi .nil q1a (q00 (pv 12) (q00 (pv 13) (q00 (pv 10) (q00 (pv 9) q04))))) (pv 11) (q0u _)))).pt (q06 (q0i pe_bl)) q0f)))))
   (q06 (q0i pe_bl)))))))))))))))))),?_⟩
  try dsimp only [cx_of,cx_nox,cx_comp]
  refine ⟨_,rfl,sc,ns,63,rfl,hS,hn63,by omega,by omega,fun H1 dn cs1 s1 hdnN hdn1 hcl1 hcb1=>?_⟩
  refine ⟨_,rfl,sc,ns,55,rfl,s1.seq hS,hn63,by omega,by omega,fun H2 dl ls s2 hdlN hdl hll hlb=>?_⟩
  have hdn2:=s2 _ _ hdn1
  have dnl:dn≠dl:=q05 hdn1 hdlN
  refine ⟨fun σ' H'=>∃ cs:List Int,σ'=[some (.ref sc),some (.ref dn),some (.ref dl),none,none,none,none,none,none,none,none,none,none,none]∧LI H' dn cs∧cs.length=63∧LI H' dl ls∧cs.getD 0 0 % 7≠0,?_,?_⟩
  rotate_left
  ·have c0:(cs1.map V.int)[0]?=some (.int (cs1[0]'(by omega))):=by rw [List.getElem?_map,List.getElem?_eq_getElem (by omega)];rfl
   have c2:(cs1.map V.int)[2]?=some (.int (cs1[2]'(by omega))):=by rw [List.getElem?_map,List.getElem?_eq_getElem (by omega)];rfl
   refine ⟨_,rfl,dn,_,_,_,rfl,rfl,SqL.of hdn2,q09 (j:=0) c0,_,_,rfl,rfl,(by show (0:Int) < 7;decide),rfl,_,rfl,?_⟩
   rw [q25]
   by_cases h0:(cs1[0]'(by omega)) % 7=0
   ·rw [decide_eq_true h0]
    refine iteT ⟨_,rfl,dn,_,_,_,rfl,rfl,SqL.of hdn2,q09 (j:=2) c2,_,_,rfl,rfl,(by show (0:Int) < 6;decide),_,_,rfl,rfl,?_⟩
    refine ⟨_,rfl,dn,_,_,0,rfl,rfl,hdn2,q6v (k:=0) (by rw [List.length_map];omega),cs1.set 0 (1+(cs1[2]'(by omega)) % 6),rfl,?_,by rw [List.length_set];exact hcl1,?_,?_⟩
    ·rw [LI,q01,List.map_set]
     rfl
    ·rw [LI,q08 (Ne.symm dnl)]
     exact hdl
    ·rw [List.getD_eq_getElem?_getD,List.getElem?_set_self (by omega)]
     show (1+(cs1[2]'(by omega)) % 6) % 7≠0
     omega
   ·rw [decide_eq_false h0]
    refine iteF ⟨cs1,rfl,hdn2,hcl1,hdl,?_⟩
    rw [List.getD_eq_getElem?_getD,List.getElem?_eq_getElem (by omega)]
    exact h0
  rintro σ3 H3 ⟨cs,rfl,hdn,hcl,hdl3,hc7⟩
  have cat:∀ j:Nat,(h:j < 63)→(cs.map V.int)[j]?=some (.int (cs[j]'(by omega))):=fun j h=>by rw [List.getElem?_map,List.getElem?_eq_getElem (by omega)];rfl
  refine ⟨_,rfl,dn,cs,14,rfl,hdn,hcl,by omega,by omega,fun H4 t lp0 r ps0 xs0 s4 ht hlp0 hpv0 hok0 hr6 hpm hr0 er=>?_⟩
  refine ⟨t,_,rfl,SqT.of ht,rfl,_,_,rfl,_,_,rfl,rfl,?_⟩
  have hr1:1≤r:=by
   have:=Int.emod_nonneg (cs.getD 0 0) (show (7:Int)≠0 by decide)
   omega
  have hdn4:=s4 _ _ hdn
  have hdl4:=s4 _ _ hdl3
  refine ⟨fun σ' H'=>∃ (lp:Addr) (xs:List V) (ps:PP),σ'=[some (.ref sc),some (.ref dn),some (.ref dl),some (.int ((r:Int)+1)),some (.ref lp),none,none,none,none,none,none,none,none,none]∧Same H4 H'∧H' lp=some (.lst xs)∧PV H' xs ps∧(∀ p∈ps,q0z ((r:Int)+1) p=true)∧1≤ps.length∧ps.length < 14,?_,?_⟩
  rotate_left
  ·refine ⟨_,rfl,lp0,_,rfl,.inl (SqL.of hlp0),rfl,_,rfl,?_⟩
   rw [hpv0.length,q25]
   by_cases h0:ps0.length=0
   ·rw [decide_eq_true (show ((ps0.length:Nat):Int)=0 by omega)]
    refine iteT ⟨by show 2≤sizeLine;decide,fun tt htt=>⟨by show 1≤sizeLine;decide,fun lp hlp=>?_⟩⟩
    have v1:=Same.rfl'.new htt (o:=.tup [.int 0,.int 1])
    have v1v:(upd H4 tt (.tup [.int 0,.int 1])) tt=some (.tup [.int 0,.int 1]):=q01
    have v2:=Same.rfl'.new hlp (o:=.lst [.ref tt])
    refine ⟨lp,[.ref tt],[(0,1)],rfl,v1.tr v2,q01,.cons ⟨tt,rfl,v2 _ _ v1v⟩ .nil,fun p hp=>?_,by simp,by simp⟩
    rw [List.mem_singleton] at hp
    subst hp
    exact okP01 hr1
   ·rw [decide_eq_false (show ¬ ((ps0.length:Nat):Int)=0 by omega)]
    exact iteF ⟨lp0,xs0,ps0,rfl,Same.rfl',hlp0,hpv0,hok0,by omega,hpm⟩
  rintro σ5 H5 ⟨lp,xs,ps,rfl,s5,hlp,hpv,hok,hp1,hp14⟩
  have hxl:=hpv.length
  have hft:fits ((r:Int)+1) ps=true:=fits_mk (by omega) (by omega) (by omega) hok
  have hdn5:=s5 _ _ hdn4
  have hdl5:=s5 _ _ hdl4
  refine ⟨_,rfl,dn,_,_,_,rfl,rfl,SqL.of hdn5,q09 (j:=2) (cat 2 (by omega)),_,_,rfl,rfl,(by show (0:Int) < 4;decide),_,_,rfl,rfl,?_⟩
  refine ⟨fun σ' H'=>∃ c:Int,σ'=[some (.ref sc),some (.ref dn),some (.ref dl),some (.int ((r:Int)+1)),some (.ref lp),some (.int c),none,none,none,none,none,none,none,none]∧H'=H5∧1≤c∧c≤60,?_,?_⟩
  rotate_left
  ·refine ⟨_,rfl,dn,_,_,_,rfl,rfl,SqL.of hdn5,q09 (j:=3) (cat 3 (by omega)),_,_,rfl,rfl,(by show (0:Int) < 8;decide),rfl,_,rfl,?_⟩
   refine ite2 (fun _=>?_) (fun _=>?_)
   ·exact ⟨_,rfl,dn,_,_,_,rfl,rfl,SqL.of hdn5,q09 (j:=2) (cat 2 (by omega)),_,_,rfl,rfl,(by show (0:Int) < 60;decide),_,_,rfl,rfl,1+(cs[2]'(by omega)) % 60,rfl,rfl,by omega,by omega⟩
   ·exact ⟨1+(cs[2]'(by omega)) % 4,rfl,rfl,by omega,by omega⟩
  rintro σ6 H6 ⟨c,rfl,rfl,hc1,hc60⟩
  refine ⟨_,rfl,lp,_,rfl,.inl (SqL.of hlp),_,rfl,by omega,by omega,fun D hD=>q5p (n:=ps.length) hD (fun i=>(ls.take i).map V.int) rfl (fun i hi=>?_) (fun i H7 hi sm hD7=>?_) (fun H7 s7 hD7=>?_)⟩
  ·rw [List.length_map,List.length_take]
   exact q0c (by omega)
  ·refine ⟨by show i < ((xs.length:Nat):Int).toNat;omega,fun K1 k1 x H' y=>?_⟩
   obtain ⟨rfl,rfl⟩:=y
   have gl:(ls.map V.int)[i]?=some (.int (ls[i]'(by omega))):=by rw [List.getElem?_map,List.getElem?_eq_getElem (by omega)];rfl
   refine ⟨rfl,_,rfl,_,rfl,dl,_,_,_,rfl,rfl,SqL.of (sm _ _ hdl5),?_,k1 _ _ Same.rfl' (by rw [q4g (List.getElem?_eq_getElem (by omega))])⟩
   first | exact q09 gl | (rw [show (0:Int)+(i:Int)=(i:Int) by omega];exact q09 gl)
  refine ⟨by first | (show ((xs.length:Nat):Int).toNat≤ps.length;omega) | (show ps.length≤((xs.length:Nat):Int).toNat;omega),?_⟩
  obtain ⟨ws,hws⟩:∃ ws,ws=ls.take ps.length:=⟨_,rfl⟩
  rw [← hws] at hD7
  have hwl:ws.length=ps.length:=by rw [hws,List.length_take];omega
  have ha:q0s ws ps.length=true:=amounts_of hwl fun x hx=>hlb x (List.mem_of_mem_take (hws ▸ hx))
  have hdn7:=s7 _ _ hdn5
  have hdl7:=s7 _ _ hdl5
  refine ⟨_,rfl,dn,_,_,_,rfl,rfl,SqL.of hdn7,q09 (j:=4) (cat 4 (by omega)),_,_,rfl,rfl,(by show (0:Int) < 6;decide),_,_,rfl,rfl,_,_,rfl,?_⟩
  obtain ⟨fault,hf,hf0,hf4⟩:∃ fault:Int,(if (cs[4]'(by omega)) % 6 - 1 > 0 then (cs[4]'(by omega)) % 6 - 1 else 0)=fault∧0≤fault∧fault≤4:=⟨_,rfl,by split <;> omega,by split <;> omega⟩
  rw [hf]
  refine ⟨_,rfl,dn,_,_,_,rfl,rfl,SqL.of hdn7,q09 (j:=5) (cat 5 (by omega)),_,_,rfl,rfl,(by show (0:Int) < 6;decide),_,_,rfl,rfl,_,_,rfl,?_⟩
  obtain ⟨other,ho,ho0,ho4⟩:∃ other:Int,(if (cs[5]'(by omega)) % 6 - 1 > 0 then (cs[5]'(by omega)) % 6 - 1 else 0)=other∧0≤other∧other≤4:=⟨_,rfl,by split <;> omega,by split <;> omega⟩
  rw [ho]
  refine ⟨_,rfl,_,rfl,_,rfl,_,rfl,D,dn,dl,ws,cs,ls,fault,rfl,hf0,hf4,hD7,by omega,by omega,hdn7,hcl,hdl7,hll,fun x hx=>(hlb x hx).1,fun H8 db bs s8 hdb hbl hb0 hb1=>?_⟩
  refine ⟨_,rfl,fun σ' H'=>∃ odd:Int,σ'=[some (.ref sc),some (.ref dn),some (.ref dl),some (.int ((r:Int)+1)),some (.ref lp),some (.int c),some (.ref D),some (.int fault),some (.int other),some (.ref db),some (.int odd),none,none,none]∧Same H8 H'∧(0 < other→¬ (1≤odd∧odd≤60))∧(¬ 0 < other→odd=c),?_,?_⟩
  rotate_left
  ·refine ⟨_,rfl,_,_,rfl,rfl,_,rfl,?_⟩
   by_cases ho1:0 < other
   ·rw [decide_eq_true ho1]
    have l4:atI (ls.map V.int) (4:Int)=some (.int (ls[4]'(by omega))):=q09 (j:=4) (by rw [List.getElem?_map,List.getElem?_eq_getElem (by omega)];rfl)
    have hdl8:=s8 _ _ hdl7
    have m1:=Int.emod_nonneg (ls[4]'(by omega)) (b:=10 ^ (59:Int).toNat) (Int.ne_of_gt lim59)
    refine iteT ⟨_,rfl,dl,_,_,_,rfl,rfl,SqL.of hdl8,l4,_,_,rfl,rfl,cpow59,_,_,rfl,rfl,lim59,_,_,rfl,rfl,_,rfl,_,rfl,dl,_,_,_,rfl,rfl,SqL.of hdl8,l4,_,_,rfl,rfl,cpow59,_,_,rfl,rfl,lim59,_,_,rfl,rfl,by show 4≤sizeLine;decide,fun t4 ht4=>?_⟩
    generalize (ls[4]'(by omega)) % 10 ^ (59:Int).toNat=mm at m1 ht4 ⊢
    have ut:=Same.rfl'.new ht4 (o:=.lst [.int 0,.int 61,.int (61+mm),.int (-1 - mm)])
    have htv:(upd H8 t4 (.lst [.int 0,.int 61,.int (61+mm),.int (-1 - mm)])) t4=some (.lst [.int 0,.int 61,.int (61+mm),.int (-1 - mm)]):=q01
    generalize upd H8 t4 (.lst [.int 0,.int 61,.int (61+mm),.int (-1 - mm)])=H9 at ut htv
    obtain ⟨j,hj4,hj⟩:∃ j:Nat,j < 4∧other - 1=(j:Int):=⟨(other - 1).toNat,by omega,by omega⟩
    obtain ⟨y,hy,hy1⟩:∃ y:Int,([.int 0,.int 61,.int (61+mm),.int (-1 - mm)]:List V)[j]?=some (.int y)∧¬ (1≤y∧y≤60):=by
     match j,hj4 with
     | 0,_=>exact ⟨_,rfl,by omega⟩
     | 1,_=>exact ⟨_,rfl,by omega⟩
     | 2,_=>exact ⟨_,rfl,by omega⟩
     | 3,_=>exact ⟨_,rfl,by omega⟩
    have gj:atI ([.int 0,.int 61,.int (61+mm),.int (-1 - mm)]:List V) (other - 1)=some (.int y):=by
     rw [hj]
     exact q09 hy
    exact ⟨_,rfl,_,_,rfl,rfl,t4,_,_,_,rfl,rfl,SqL.of htv,gj,y,rfl,ut,fun _=>hy1,fun z=>absurd ho1 z⟩
   ·rw [decide_eq_false ho1]
    exact iteF ⟨c,rfl,Same.rfl',fun z=>absurd z ho1,fun _=>rfl⟩
  rintro σ9 H9 ⟨odd,rfl,s9,ho1,ho2⟩
  refine ⟨fun σ' H'=>σ'=[some (.ref sc),some (.ref dn),some (.ref dl),some (.int ((r:Int)+1)),some (.ref lp),some (.int c),some (.ref D),some (.int fault),some (.int other),some (.ref db),some (.int odd),some (.str (if 0 < other then "BadCount" else "told")),none,none]∧H'=H9,?_,?_⟩
  rotate_left
  ·refine ⟨_,rfl,_,_,rfl,rfl,_,rfl,?_⟩
   by_cases h:0 < other
   ·rw [decide_eq_true h,if_pos h]
    exact iteT ⟨rfl,rfl⟩
   ·rw [decide_eq_false h,if_neg h]
    exact iteF ⟨rfl,rfl⟩
  rintro σ10 H10 ⟨rfl,rfl⟩
  refine ⟨fun σ' H'=>σ'=[some (.ref sc),some (.ref dn),some (.ref dl),some (.int ((r:Int)+1)),some (.ref lp),some (.int c),some (.ref D),some (.int fault),some (.int other),some (.ref db),some (.int odd),some (.str (if 0 < fault then "BadWages" else if 0 < other then "BadCount" else "told")),none,none]∧H'=H10,?_,?_⟩
  rotate_left
  ·refine ⟨_,rfl,_,_,rfl,rfl,_,rfl,?_⟩
   by_cases h:0 < fault
   ·rw [decide_eq_true h,if_pos h]
    exact iteT ⟨rfl,rfl⟩
   ·rw [decide_eq_false h,if_neg h]
    exact iteF ⟨rfl,rfl⟩
  rintro σ11 H11 ⟨rfl,rfl⟩
  have hab:0 < fault→q0s bs ps.length=false:=fun h=>by rw [← hwl];exact hb1 h
  have hab2:¬ 0 < fault→q0s bs ps.length=true:=fun h=>by rw [hb0 (by omega)];exact ha
  rw [dueOf_eq hab hab2 ho1 fun h=>by rw [ho2 h];exact ⟨hc1,hc60⟩]
  have w0:q2f (q0s ws ps.length) c = "told" := by unfold q2f;rw [ha,if_neg (by decide),if_pos ⟨hc1,hc60⟩]
  have s711:=s8.tr s9
  have s511:=s7.tr s711
  refine ⟨(2:Int),rfl,by decide,by decide,q2n (lo:=(0:Int)) (n:=(2:Int).toNat) (fun i σ H12=>Same H11 H12∧∃ u v,σ=[some (.ref sc),some (.ref dn),some (.ref dl),some (.int ((r:Int)+1)),some (.ref lp),some (.int c),some (.ref D),some (.int fault),some (.int other),some (.ref db),some (.int odd),some (.str (q2f (q0s bs ps.length) odd)),u,v]) ⟨Same.rfl',_,_,rfl⟩ ?_ ?_⟩
  ·rintro i σ H12 hi ⟨s12,u,v,rfl⟩
   have hi2:i < 2:=hi
   have s512:=s511.tr s12
   have hlp12:=s512 _ _ hlp
   have hpv12:=hpv.same s512
   refine ⟨_,rfl,_,rfl,lp,xs,rfl,.inl (SqL.of hlp12),fun lh hlh p dx np ndx npd=>?_⟩
   have t3:Same H12 (upd H12 lh (.lst xs)):=Same.rfl'.new hlh
   have t4:Same (upd H12 lh (.lst xs)) (upd (upd (upd H12 lh (.lst xs)) dx (.own p)) p (.ins CT dx [])):=fun b o e=>by
    rw [q08 (q05 e np),q08 (q05 e ndx)]
    exact e
   refine ⟨p,dx,_,lh,xs,ps,rfl,q01,t4 _ _ q01,(hpv12.same t3).same t4,hft,fun l2 H13 nl2 twn keep=>⟨rfl,?_⟩⟩
   have s13:Same H12 H13:=t3.tr fun b o e=>keep b o (t4 b o e) (q05 e np)
   clear nl2 keep np ndx npd t3 t4 hlh
   have hway:(0:Int)+(i:Int)=0∨(0:Int)+(i:Int)=1:=by omega
   have sb:=(s9.tr s12).tr s13
   refine ⟨_,rfl,_,rfl,_,rfl,_,rfl,_,p,l2,db,r,xs,ps,odd,bs,rfl,hway,twn,hpv12.same s13,hft,sb _ _ hdb,by omega,fun H14 s14=>?_⟩
   refine ⟨_,rfl,rfl,_,rfl,?_⟩
   rw [decide_eq_true rfl]
   have sw:=(s711.tr s12).tr (s13.tr s14)
   refine iteF ⟨_,rfl,_,rfl,_,rfl,_,rfl,_,p,l2,D,r,xs,ps,c,ws,rfl,hway,twn.same s14,(hpv12.same s13).same s14,hft,sw _ _ hD7,by omega,fun H15 s15=>?_⟩
   rw [w0]
   refine ⟨rfl,_,rfl,?_⟩
   rw [decide_eq_true rfl]
   have sb2:=sb.tr (s14.tr s15)
   refine iteF ⟨_,rfl,_,rfl,_,rfl,_,rfl,_,p,l2,db,r,xs,ps,odd,bs,rfl,hway,(twn.same s14).same s15,((hpv12.same s13).same s14).same s15,hft,sb2 _ _ hdb,by omega,fun H16 s16=>?_⟩
   refine ⟨_,rfl,rfl,_,rfl,?_⟩
   rw [decide_eq_true rfl]
   exact iteF ⟨s12.tr (s13.tr (s14.tr (s15.tr s16))),_,_,rfl⟩
  ·rintro σ H12 ⟨s12,u,v,rfl⟩
   exact kQ _
end
end K28
namespace K28
open PySem L2 XM
theorem all_mk {l:W.OpenLaw} {w:World} {K:W.Frag} {h:Heap} {mg:Str→Option Value} {fa CE CS CQ C1 C2 C3 C4 C5 C6 C7 C8 C9 C10 C11 CT:Addr} {t_aMQ t_aMB t_aMC:Tok} {f61 f62 f60 f1 f2 f3 f4 f5 f6 f7 f8 f9 f10 f11 f12 f13 f14 f16 f40 f41 f42 f43 f44 f45 f32 f33 f34 f46 f50 f51 f52 f81 f82 f57 f58 f30:Addr} {od61 an61 od62 an62 od60 an60 od1 an1 od2 an2 od3 an3 od4 an4 od5 an5 od6 an6 od7 an7 od8 an8 od9 an9 od10 an10 od11 an11 od12 an12 od13 an13 od14 an14 od16 an16 od40 an40 od41 an41 od42 an42 od43 an43 od44 an44 od45 an45 od32 an32 od33 an33 od34 an34 od46 an46 od50 an50 od51 an51 od52 an52 od81 an81 od82 an82 od57 an57 od58 an58 od30 an30:Option Addr} {sl61 sl62 sl60 sl1 sl2 sl3 sl4 sl5 sl6 sl7 sl8 sl9 sl10 sl11 sl12 sl13 sl14 sl16 sl40 sl41 sl42 sl43 sl44 sl45 sl32 sl33 sl34 sl46 sl50 sl51 sl52 sl81 sl82 sl57 sl58 sl30:Array (Option Value)} {oc61 kV61 dc61 pm61 cd61 ct61 oc62 kV62 dc62 pm62 cd62 ct62 oc60 kV60 dc60 pm60 cd60 ct60 oc1 kV1 dc1 pm1 cd1 ct1 oc2 kV2 dc2 pm2 cd2 ct2 oc3 kV3 dc3 pm3 cd3 ct3 oc4 kV4 dc4 pm4 cd4 ct4 oc5 kV5 dc5 pm5 cd5 ct5 oc6 kV6 dc6 pm6 cd6 ct6 oc7 kV7 dc7 pm7 cd7 ct7 oc8 kV8 dc8 pm8 cd8 ct8 oc9 kV9 dc9 pm9 cd9 ct9 oc10 kV10 dc10 pm10 cd10 ct10 oc11 kV11 dc11 pm11 cd11 ct11 oc12 kV12 dc12 pm12 cd12 ct12 oc13 kV13 dc13 pm13 cd13 ct13 oc14 kV14 dc14 pm14 cd14 ct14 oc16 kV16 dc16 pm16 cd16 ct16 oc40 kV40 dc40 pm40 cd40 ct40 oc41 kV41 dc41 pm41 cd41 ct41 oc42 kV42 dc42 pm42 cd42 ct42 oc43 kV43 dc43 pm43 cd43 ct43 oc44 kV44 dc44 pm44 cd44 ct44 oc45 kV45 dc45 pm45 cd45 ct45 oc32 kV32 dc32 pm32 cd32 ct32 oc33 kV33 dc33 pm33 cd33 ct33 oc34 kV34 dc34 pm34 cd34 ct34 oc46 kV46 dc46 pm46 cd46 ct46 oc50 kV50 dc50 pm50 cd50 ct50 oc51 kV51 dc51 pm51 cd51 ct51 oc52 kV52 dc52 pm52 cd52 ct52 oc81 kV81 dc81 pm81 cd81 ct81 oc82 kV82 dc82 pm82 cd82 ct82 oc57 kV57 dc57 pm57 cd57 ct57 oc58 kV58 dc58 pm58 cd58 ct58 oc30 kV30 dc30 pm30 cd30 ct30:Value} (X:K.In h) (G:h.Ns mainGlobals mg) (hfa:mg "law" = some (.ref fa))
  (aCE:W.nsIn K mainGlobals "CrewError" = some (some (.ref CE)))
  (aCS:W.nsIn K mainGlobals "BadWages" = some (some (.ref CS)))
  (aCQ:W.nsIn K mainGlobals "BadCount" = some (some (.ref CQ)))
  (aC1:W.nsIn K mainGlobals "BadDealing" = some (some (.ref C1)))
  (aC2:W.nsIn K mainGlobals "BadDeed" = some (some (.ref C2)))
  (aC3:W.nsIn K mainGlobals "BadLimits" = some (some (.ref C3)))
  (aC4:W.nsIn K mainGlobals "BadParting" = some (some (.ref C4)))
  (aC5:W.nsIn K mainGlobals "BadQuarters" = some (some (.ref C5)))
  (aC6:W.nsIn K mainGlobals "BadSome" = some (some (.ref C6)))
  (aC7:W.nsIn K mainGlobals "BadText" = some (some (.ref C7)))
  (aC8:W.nsIn K mainGlobals "BadTown" = some (some (.ref C8)))
  (aC9:W.nsIn K mainGlobals "BadTree" = some (some (.ref C9)))
  (aC10:W.nsIn K mainGlobals "TooLarge" = some (some (.ref C10)))
  (aC11:W.nsIn K mainGlobals "TooSmall" = some (some (.ref C11)))
  (aCT:W.nsIn K mainGlobals "Town" = some (some (.ref CT)))
  (aMQ:W.nsIn K mainGlobals "MOST_QUARTERS" = some (some (.int 24 t_aMQ)))
  (aMB:W.nsIn K mainGlobals "MOST_BRIDGES" = some (some (.int 60 t_aMB)))
  (aMC:W.nsIn K mainGlobals "MOST_CREWS" = some (some (.int 60 t_aMC)))
  (a61:W.nsIn K mainGlobals "put_together" = some (some (.ref f61)))
  (l61:K.lookup f61=some ⟨oc61,od61,.func (W.fnOf "put_together" "put_together" (q0e q23) (q0d q23) (q03 q23) .none kV61 dc61 pm61 an61 cd61 ct61),sl61⟩)
  (c61:W.codeIn K cd61 "put_together" = true)
  (k61:W.keepIn K (.ref f61)=true)
  (a62:W.nsIn K mainGlobals "deal_by_rows" = some (some (.ref f62)))
  (l62:K.lookup f62=some ⟨oc62,od62,.func (W.fnOf "deal_by_rows" "deal_by_rows" (q0e z02) (q0d z02) (q03 z02) .none kV62 dc62 pm62 an62 cd62 ct62),sl62⟩)
  (c62:W.codeIn K cd62 "deal_by_rows" = true)
  (k62:W.keepIn K (.ref f62)=true)
  (a60:W.nsIn K mainGlobals "way_to" = some (some (.ref f60)))
  (l60:K.lookup f60=some ⟨oc60,od60,.func (W.fnOf "way_to" "way_to" (q0e q6u) (q0d q6u) (q03 q6u) .none kV60 dc60 pm60 an60 cd60 ct60),sl60⟩)
  (c60:W.codeIn K cd60 "way_to" = true)
  (k60:W.keepIn K (.ref f60)=true)
  (a1:W.nsIn K mainGlobals "is_quarter" = some (some (.ref f1)))
  (l1:K.lookup f1=some ⟨oc1,od1,.func (W.fnOf "is_quarter" "is_quarter" (q0e sIsq) (q0d sIsq) (q03 sIsq) .none kV1 dc1 pm1 an1 cd1 ct1),sl1⟩)
  (c1:W.codeIn K cd1 "is_quarter" = true)
  (k1:W.keepIn K (.ref f1)=true)
  (a2:W.nsIn K mainGlobals "joins_two" = some (some (.ref f2)))
  (l2:K.lookup f2=some ⟨oc2,od2,.func (W.fnOf "joins_two" "joins_two" (q0e sJoin) (q0d sJoin) (q03 sJoin) .none kV2 dc2 pm2 an2 cd2 ct2),sl2⟩)
  (c2:W.codeIn K cd2 "joins_two" = true)
  (k2:W.keepIn K (.ref f2)=true)
  (a3:W.nsIn K mainGlobals "check_town" = some (some (.ref f3)))
  (l3:K.lookup f3=some ⟨oc3,od3,.func (W.fnOf "check_town" "check_town" (q0e q6j) (q0d q6j) (q03 q6j) .none kV3 dc3 pm3 an3 cd3 ct3),sl3⟩)
  (c3:W.codeIn K cd3 "check_town" = true)
  (k3:W.keepIn K (.ref f3)=true)
  (a4:W.nsIn K mainGlobals "check_crews" = some (some (.ref f4)))
  (l4:K.lookup f4=some ⟨oc4,od4,.func (W.fnOf "check_crews" "check_crews" (q0e q45) (q0d q45) (q03 q45) .none kV4 dc4 pm4 an4 cd4 ct4),sl4⟩)
  (c4:W.codeIn K cd4 "check_crews" = true)
  (k4:W.keepIn K (.ref f4)=true)
  (a5:W.nsIn K mainGlobals "steps_over" = some (some (.ref f5)))
  (l5:K.lookup f5=some ⟨oc5,od5,.func (W.fnOf "steps_over" "steps_over" (q0e q68) (q0d q68) (q03 q68) .none kV5 dc5 pm5 an5 cd5 ct5),sl5⟩)
  (c5:W.codeIn K cd5 "steps_over" = true)
  (k5:W.keepIn K (.ref f5)=true)
  (a6:W.nsIn K mainGlobals "reached_from" = some (some (.ref f6)))
  (l6:K.lookup f6=some ⟨oc6,od6,.func (W.fnOf "reached_from" "reached_from" (q0e q6s) (q0d q6s) (q03 q6s) .none kV6 dc6 pm6 an6 cd6 ct6),sl6⟩)
  (c6:W.codeIn K cd6 "reached_from" = true)
  (k6:W.keepIn K (.ref f6)=true)
  (a7:W.nsIn K mainGlobals "way_between" = some (some (.ref f7)))
  (l7:K.lookup f7=some ⟨oc7,od7,.func (W.fnOf "way_between" "way_between" (q0e q3k) (q0d q3k) (q03 q3k) .none kV7 dc7 pm7 an7 cd7 ct7),sl7⟩)
  (c7:W.codeIn K cd7 "way_between" = true)
  (k7:W.keepIn K (.ref f7)=true)
  (a8:W.nsIn K mainGlobals "dealing_of" = some (some (.ref f8)))
  (l8:K.lookup f8=some ⟨oc8,od8,.func (W.fnOf "dealing_of" "dealing_of" (q0e q3v) (q0d q3v) (q03 q3v) .none kV8 dc8 pm8 an8 cd8 ct8),sl8⟩)
  (c8:W.codeIn K cd8 "dealing_of" = true)
  (k8:W.keepIn K (.ref f8)=true)
  (a9:W.nsIn K mainGlobals "room_for" = some (some (.ref f9)))
  (l9:K.lookup f9=some ⟨oc9,od9,.func (W.fnOf "room_for" "room_for" (q0e q3f) (q0d q3f) (q03 q3f) .none kV9 dc9 pm9 an9 cd9 ct9),sl9⟩)
  (c9:W.codeIn K cd9 "room_for" = true)
  (k9:W.keepIn K (.ref f9)=true)
  (a10:W.nsIn K mainGlobals "make_room" = some (some (.ref f10)))
  (l10:K.lookup f10=some ⟨oc10,od10,.func (W.fnOf "make_room" "make_room" (q0e q2q) (q0d q2q) (q03 q2q) .none kV10 dc10 pm10 an10 cd10 ct10),sl10⟩)
  (c10:W.codeIn K cd10 "make_room" = true)
  (k10:W.keepIn K (.ref f10)=true)
  (a11:W.nsIn K mainGlobals "lies_within" = some (some (.ref f11)))
  (l11:K.lookup f11=some ⟨oc11,od11,.func (W.fnOf "lies_within" "lies_within" (q0e q9n) (q0d q9n) (q03 q9n) .none kV11 dc11 pm11 an11 cd11 ct11),sl11⟩)
  (c11:W.codeIn K cd11 "lies_within" = true)
  (k11:W.keepIn K (.ref f11)=true)
  (a12:W.nsIn K mainGlobals "ends_of" = some (some (.ref f12)))
  (l12:K.lookup f12=some ⟨oc12,od12,.func (W.fnOf "ends_of" "ends_of" (q0e q42) (q0d q42) (q03 q42) .none kV12 dc12 pm12 an12 cd12 ct12),sl12⟩)
  (c12:W.codeIn K cd12 "ends_of" = true)
  (k12:W.keepIn K (.ref f12)=true)
  (a13:W.nsIn K mainGlobals "with_huddle" = some (some (.ref f13)))
  (l13:K.lookup f13=some ⟨oc13,od13,.func (W.fnOf "with_huddle" "with_huddle" (q0e q3g) (q0d q3g) (q03 q3g) .none kV13 dc13 pm13 an13 cd13 ct13),sl13⟩)
  (c13:W.codeIn K cd13 "with_huddle" = true)
  (k13:W.keepIn K (.ref f13)=true)
  (a14:W.nsIn K mainGlobals "deal_most" = some (some (.ref f14)))
  (l14:K.lookup f14=some ⟨oc14,od14,.func (W.fnOf "deal_most" "deal_most" (q0e q74) (q0d q74) (q03 q74) .none kV14 dc14 pm14 an14 cd14 ct14),sl14⟩)
  (c14:W.codeIn K cd14 "deal_most" = true)
  (k14:W.keepIn K (.ref f14)=true)
  (a16:W.findIn K (.ref CT) "__init__" = some (some (.ref f16)))
  (l16:K.lookup f16=some ⟨oc16,od16,.func (W.fnOf "__init__" "Town.__init__" (q0e sInit) (q0d sInit) (q03 sInit) .none kV16 dc16 pm16 an16 cd16 ct16),sl16⟩)
  (c16:W.codeIn K cd16 "Town.__init__" = true)
  (k16:W.keepIn K (.ref f16)=true)
  (a40:W.nsIn K mainGlobals "are_amounts" = some (some (.ref f40)))
  (l40:K.lookup f40=some ⟨oc40,od40,.func (W.fnOf "are_amounts" "are_amounts" (q0e q2v) (q0d q2v) (q03 q2v) .none kV40 dc40 pm40 an40 cd40 ct40),sl40⟩)
  (c40:W.codeIn K cd40 "are_amounts" = true)
  (k40:W.keepIn K (.ref f40)=true)
  (a41:W.nsIn K mainGlobals "check_wages" = some (some (.ref f41)))
  (l41:K.lookup f41=some ⟨oc41,od41,.func (W.fnOf "check_wages" "check_wages" (q0e q41) (q0d q41) (q03 q41) .none kV41 dc41 pm41 an41 cd41 ct41),sl41⟩)
  (c41:W.codeIn K cd41 "check_wages" = true)
  (k41:W.keepIn K (.ref f41)=true)
  (a42:W.nsIn K mainGlobals "bridges_for" = some (some (.ref f42)))
  (l42:K.lookup f42=some ⟨oc42,od42,.func (W.fnOf "bridges_for" "bridges_for" (q0e z0d) (q0d z0d) (q03 z0d) .none kV42 dc42 pm42 an42 cd42 ct42),sl42⟩)
  (c42:W.codeIn K cd42 "bridges_for" = true)
  (k42:W.keepIn K (.ref f42)=true)
  (a43:W.nsIn K mainGlobals "sum_of" = some (some (.ref f43)))
  (l43:K.lookup f43=some ⟨oc43,od43,.func (W.fnOf "sum_of" "sum_of" (q0e q5s) (q0d q5s) (q03 q5s) .none kV43 dc43 pm43 an43 cd43 ct43),sl43⟩)
  (c43:W.codeIn K cd43 "sum_of" = true)
  (k43:W.keepIn K (.ref f43)=true)
  (a44:W.nsIn K mainGlobals "dealt_by_wages" = some (some (.ref f44)))
  (l44:K.lookup f44=some ⟨oc44,od44,.func (W.fnOf "dealt_by_wages" "dealt_by_wages" (q0e q3z) (q0d q3z) (q03 q3z) .none kV44 dc44 pm44 an44 cd44 ct44),sl44⟩)
  (c44:W.codeIn K cd44 "dealt_by_wages" = true)
  (k44:W.keepIn K (.ref f44)=true)
  (a45:W.nsIn K mainGlobals "dearest_dealing" = some (some (.ref f45)))
  (l45:K.lookup f45=some ⟨oc45,od45,.func (W.fnOf "dearest_dealing" "dearest_dealing" (q0e q31) (q0d q31) (q03 q31) .none kV45 dc45 pm45 an45 cd45 ct45),sl45⟩)
  (c45:W.codeIn K cd45 "dearest_dealing" = true)
  (k45:W.keepIn K (.ref f45)=true)
  (a32:W.nsIn K mainGlobals "parting_around" = some (some (.ref f32)))
  (l32:K.lookup f32=some ⟨oc32,od32,.func (W.fnOf "parting_around" "parting_around" (q0e q2u) (q0d q2u) (q03 q2u) .none kV32 dc32 pm32 an32 cd32 ct32),sl32⟩)
  (c32:W.codeIn K cd32 "parting_around" = true)
  (k32:W.keepIn K (.ref f32)=true)
  (a33:W.nsIn K mainGlobals "joined_or_parted" = some (some (.ref f33)))
  (l33:K.lookup f33=some ⟨oc33,od33,.func (W.fnOf "joined_or_parted" "joined_or_parted" (q0e q3x) (q0d q3x) (q03 q3x) .none kV33 dc33 pm33 an33 cd33 ct33),sl33⟩)
  (c33:W.codeIn K cd33 "joined_or_parted" = true)
  (k33:W.keepIn K (.ref f33)=true)
  (a34:W.nsIn K mainGlobals "joining_crews" = some (some (.ref f34)))
  (l34:K.lookup f34=some ⟨oc34,od34,.func (W.fnOf "joining_crews" "joining_crews" (q0e q2w) (q0d q2w) (q03 q2w) .none kV34 dc34 pm34 an34 cd34 ct34),sl34⟩)
  (c34:W.codeIn K cd34 "joining_crews" = true)
  (k34:W.keepIn K (.ref f34)=true)
  (a46:W.nsIn K mainGlobals "cheapest_joining" = some (some (.ref f46)))
  (l46:K.lookup f46=some ⟨oc46,od46,.func (W.fnOf "cheapest_joining" "cheapest_joining" (q0e q2e) (q0d q2e) (q03 q2e) .none kV46 dc46 pm46 an46 cd46 ct46),sl46⟩)
  (c46:W.codeIn K cd46 "cheapest_joining" = true)
  (k46:W.keepIn K (.ref f46)=true)
  (a50:W.nsIn K mainGlobals "_law_numbers" = some (some (.ref f50)))
  (l50:K.lookup f50=some ⟨oc50,od50,.func (W.fnOf "_law_numbers" "_law_numbers" (q0e q3j) (q0d q3j) (q03 q3j) .none kV50 dc50 pm50 an50 cd50 ct50),sl50⟩)
  (c50:W.codeIn K cd50 "_law_numbers" = true)
  (k50:W.keepIn K (.ref f50)=true)
  (a51:W.nsIn K mainGlobals "_law_large" = some (some (.ref f51)))
  (l51:K.lookup f51=some ⟨oc51,od51,.func (W.fnOf "_law_large" "_law_large" (q0e q6h) (q0d q6h) (q03 q6h) .none kV51 dc51 pm51 an51 cd51 ct51),sl51⟩)
  (c51:W.codeIn K cd51 "_law_large" = true)
  (k51:W.keepIn K (.ref f51)=true)
  (a52:W.nsIn K mainGlobals "_law_town" = some (some (.ref f52)))
  (l52:K.lookup f52=some ⟨oc52,od52,.func (W.fnOf "_law_town" "_law_town" (q0e sTown) (q0d sTown) (q03 sTown) .none kV52 dc52 pm52 an52 cd52 ct52),sl52⟩)
  (c52:W.codeIn K cd52 "_law_town" = true)
  (k52:W.keepIn K (.ref f52)=true)
  (a81:W.findIn K (.ref CS) "called" = some (some (.ref f81)))
  (l81:K.lookup f81=some ⟨oc81,od81,.func (W.fnOf "called" "BadWages.called" (q0e q3l) (q0d q3l) (q03 q3l) .none kV81 dc81 pm81 an81 cd81 ct81),sl81⟩)
  (c81:W.codeIn K cd81 "BadWages.called" = true)
  (k81:W.keepIn K (.ref f81)=true)
  (a82:W.findIn K (.ref CQ) "called" = some (some (.ref f82)))
  (l82:K.lookup f82=some ⟨oc82,od82,.func (W.fnOf "called" "BadCount.called" (q0e q3e) (q0d q3e) (q03 q3e) .none kV82 dc82 pm82 an82 cd82 ct82),sl82⟩)
  (c82:W.codeIn K cd82 "BadCount.called" = true)
  (k82:W.keepIn K (.ref f82)=true)
  (a57:W.nsIn K mainGlobals "_law_word" = some (some (.ref f57)))
  (l57:K.lookup f57=some ⟨oc57,od57,.func (W.fnOf "_law_word" "_law_word" (q0e sWord) (q0d sWord) (q03 sWord) .none kV57 dc57 pm57 an57 cd57 ct57),sl57⟩)
  (c57:W.codeIn K cd57 "_law_word" = true)
  (k57:W.keepIn K (.ref f57)=true)
  (a58:W.nsIn K mainGlobals "_law_spoilt" = some (some (.ref f58)))
  (l58:K.lookup f58=some ⟨oc58,od58,.func (W.fnOf "_law_spoilt" "_law_spoilt" (q0e q4u) (q0d q4u) (q03 q4u) .none kV58 dc58 pm58 an58 cd58 ct58),sl58⟩)
  (c58:W.codeIn K cd58 "_law_spoilt" = true)
  (k58:W.keepIn K (.ref f58)=true)
  (a30:W.nsIn K mainGlobals "law" = some (some (.ref f30)))
  (l30:K.lookup f30=some ⟨oc30,od30,.func (W.fnOf "law" "law" (q0e sLaw) (q0d sLaw) (q03 sLaw) .none kV30 dc30 pm30 an30 cd30 ct30),sl30⟩)
  (c30:W.codeIn K cd30 "law" = true)
  (k30:W.keepIn K (.ref f30)=true)
  (i16:W.isFn K (.ref f16)=true)
  (i81:W.isFn K (.ref f81)=true)
  (i82:W.isFn K (.ref f82)=true)
  (pg:W.plainGet K CT Str.empty=true)
  (hd:W.hasDictIn K CT=true)
  (po:W.plainOver K CT=true)
  (sa:W.findIn K (.ref CT) "__setattr__" = some (some (.builtin "object.__setattr__")))
  (mkT:W.makesIn K CT=true)
  (kT:W.keepIn K (.ref CT)=true)
  (nf0:W.findIn K (.ref CT) "quarters" = some none)
  (nf1:W.findIn K (.ref CT) "bridges" = some none)
  (eS:W.excIn K CS [.type "ValueError",.type "Exception",.type "BaseException",.type "object"] "ValueError.__new__" = true)
  (b1S:W.findIn K (.ref CS) "__getattribute__" = some (some (.builtin "BaseException.__getattribute__")))
  (b2S:W.findIn K (.ref CS) "__getattr__" = some none)
  (b3S:W.isClsIn K CS=true)
  (b4S:W.findIn K (.ref CS) "__class__" = some (some (.builtin "object.__class__")))
  (b7S:W.mroIn K CS (.type "object")=some true)
  (b8S:W.mroIn K CS (.type "BaseException")=some true)
  (s1S:W.mroIn K CS (.ref CE)=some true)
  (eL:W.excIn K CQ [.type "ValueError",.type "Exception",.type "BaseException",.type "object"] "ValueError.__new__" = true)
  (b1L:W.findIn K (.ref CQ) "__getattribute__" = some (some (.builtin "BaseException.__getattribute__")))
  (b2L:W.findIn K (.ref CQ) "__getattr__" = some none)
  (b3L:W.isClsIn K CQ=true)
  (b4L:W.findIn K (.ref CQ) "__class__" = some (some (.builtin "object.__class__")))
  (b7L:W.mroIn K CQ (.type "object")=some true)
  (b8L:W.mroIn K CQ (.type "BaseException")=some true)
  (s1L:W.mroIn K CQ (.ref CE)=some true)
  (b5:W.specialIn K (.builtin "object.__class__") "__get__" = some (some (.builtin "getset_descriptor.__get__")))
  (b6:W.takesIn K (.builtin "object.__class__")=some true)
  (n1:W.isClsIn K CE=true)
  (n2:W.typeIn K (.ref CE)=some (.type "type"))
  (n3:W.mroIn K CE (.type "BaseException")=some true)
  (sV:W.kitOne K (.ref CS) (.type "ValueError")=some true)
  (lV:W.kitOne K (.ref CQ) (.type "ValueError")=some true)
  (sL:W.kitOne K (.ref CS) (.ref CQ)=some false)
  (lS:W.kitOne K (.ref CQ) (.ref CS)=some false)
  (x1:W.kitOne K (.ref CS) (.ref C1)=some false)
  (y1:W.kitOne K (.ref CQ) (.ref C1)=some false)
  (x2:W.kitOne K (.ref CS) (.ref C2)=some false)
  (y2:W.kitOne K (.ref CQ) (.ref C2)=some false)
  (x3:W.kitOne K (.ref CS) (.ref C3)=some false)
  (y3:W.kitOne K (.ref CQ) (.ref C3)=some false)
  (x4:W.kitOne K (.ref CS) (.ref C4)=some false)
  (y4:W.kitOne K (.ref CQ) (.ref C4)=some false)
  (x5:W.kitOne K (.ref CS) (.ref C5)=some false)
  (y5:W.kitOne K (.ref CQ) (.ref C5)=some false)
  (x6:W.kitOne K (.ref CS) (.ref C6)=some false)
  (y6:W.kitOne K (.ref CQ) (.ref C6)=some false)
  (x7:W.kitOne K (.ref CS) (.ref C7)=some false)
  (y7:W.kitOne K (.ref CQ) (.ref C7)=some false)
  (x8:W.kitOne K (.ref CS) (.ref C8)=some false)
  (y8:W.kitOne K (.ref CQ) (.ref C8)=some false)
  (x9:W.kitOne K (.ref CS) (.ref C9)=some false)
  (y9:W.kitOne K (.ref CQ) (.ref C9)=some false)
  (x10:W.kitOne K (.ref CS) (.ref C10)=some false)
  (y10:W.kitOne K (.ref CQ) (.ref C10)=some false)
  (x11:W.kitOne K (.ref CS) (.ref C11)=some false)
  (y11:W.kitOne K (.ref CQ) (.ref C11)=some false)
  (z0:W.nsIn K mainGlobals "len" = some none)
  (z1:W.nsIn K mainGlobals "list" = some none)
  (z2:W.nsIn K mainGlobals "range" = some none)
  (z3:W.nsIn K mainGlobals "isinstance" = some none)
  (z4:W.nsIn K mainGlobals "int" = some none)
  (z5:W.nsIn K mainGlobals "bool" = some none)
  (z6:W.nsIn K mainGlobals "all" = some none)
  (z7:W.nsIn K mainGlobals "any" = some none)
  (z8:W.nsIn K mainGlobals "zip" = some none)
  (z9:W.nsIn K mainGlobals "set" = some none)
  (z10:W.nsIn K mainGlobals "sorted" = some none)
  (z11:W.nsIn K mainGlobals "enumerate" = some none)
  (z12:W.nsIn K mainGlobals "tuple" = some none)
  (z13:W.nsIn K mainGlobals "sum" = some none)
  (z14:W.nsIn K mainGlobals "max" = some none)
  (z15:W.nsIn K mainGlobals "min" = some none)
  (z16:W.nsIn K mainGlobals "reversed" = some none)
  (z17:W.nsIn K mainGlobals "ValueError" = some none) :
  ∃ fd:FuncData,(∀ (s:Shared) (v:Value),BindsTo s fd ⟨[v],[]⟩ [("script",v)])∧∀ base:Heap,K.In base→base.Ns mainGlobals mg→FnOk l.prog w K mg base CX0 10 fa fd ["script"] (spLaw K):=by
 have e:=hfa.symm.trans (W.mg_of X G a30)
 cases e
 have T:Txt K mg CE CS CQ CT:=⟨W.mg_of X G aCE,W.mg_of X G aCS,W.mg_of X G aCQ,W.mg_of X G aCT,⟨eS,PySem.F.excBase_ValueError⟩,⟨eL,PySem.F.excBase_ValueError⟩,⟨b1S,b2S,b3S,b4S,b5,b6,b7S,b8S⟩,⟨b1L,b2L,b3L,b4L,b5,b6,b7L,b8L⟩,⟨n1,n2,n3⟩,s1S,s1L,sV,lV,sL,lS,⟨_,_,_,_,_,_,_,_,W.mg_of X G aC1,W.mg_of X G aC2,W.mg_of X G aC3,W.mg_of X G aC4,W.mg_of X G aC5,W.mg_of X G aC6,W.mg_of X G aC7,W.mg_of X G aC8,kit8 x1 x2 x3 x4 x5 x6 x7 x8,kit8 y1 y2 y3 y4 y5 y6 y7 y8⟩,⟨_,_,_,W.mg_of X G aC9,W.mg_of X G aC10,W.mg_of X G aC11,kit3 x9 x10 x11,kit3 y9 y10 y11⟩,⟨pg,hd,po,sa⟩,nf0,nf1,⟨_,W.mg_of X G aMQ⟩,⟨_,W.mg_of X G aMB⟩,⟨_,W.mg_of X G aMC⟩,W.mg_none_of X G z0,W.mg_none_of X G z1,W.mg_none_of X G z2,W.mg_none_of X G z3,W.mg_none_of X G z4,W.mg_none_of X G z5,W.mg_none_of X G z6,W.mg_none_of X G z7,W.mg_none_of X G z8,W.mg_none_of X G z9,W.mg_none_of X G z10,W.mg_none_of X G z11,W.mg_none_of X G z12,W.mg_none_of X G z13,W.mg_none_of X G z14,W.mg_none_of X G z15,W.mg_none_of X G z16,W.mg_none_of X G z17⟩
 have F61:=q0r (st:=q23) l61 c61 k61
 have B61:=F61.binds (ps:=["lists"]) fun _ _ _ _ _ _ us hl=>len1 (fun _=>rfl) us hl
 have F62:=q0r (st:=z02) l62 c62 k62
 have B62:=F62.binds (ps:=["town", "crews", "rows"]) fun _ _ _ _ _ _ us hl=>len3 (fun _ _ _=>rfl) us hl
 have F60:=q0r (st:=q6u) l60 c60 k60
 have B60:=F60.binds (ps:=["quarter", "came_by"]) fun _ _ _ _ _ _ us hl=>len2 (fun _ _=>rfl) us hl
 have F1:=q0r (st:=sIsq) l1 c1 k1
 have B1:=F1.binds (ps:=["number", "quarters"]) fun _ _ _ _ _ _ us hl=>len2 (fun _ _=>rfl) us hl
 have F2:=q0r (st:=sJoin) l2 c2 k2
 have B2:=F2.binds (ps:=["one", "other", "quarters"]) fun _ _ _ _ _ _ us hl=>len3 (fun _ _ _=>rfl) us hl
 have F3:=q0r (st:=q6j) l3 c3 k3
 have B3:=F3.binds (ps:=["quarters", "bridges"]) fun _ _ _ _ _ _ us hl=>len2 (fun _ _=>rfl) us hl
 have F4:=q0r (st:=q45) l4 c4 k4
 have B4:=F4.binds (ps:=["crews"]) fun _ _ _ _ _ _ us hl=>len1 (fun _=>rfl) us hl
 have F5:=q0r (st:=q68) l5 c5 k5
 have B5:=F5.binds (ps:=["town", "some"]) fun _ _ _ _ _ _ us hl=>len2 (fun _ _=>rfl) us hl
 have F6:=q0r (st:=q6s) l6 c6 k6
 have B6:=F6.binds (ps:=["steps", "start"]) fun _ _ _ _ _ _ us hl=>len2 (fun _ _=>rfl) us hl
 have F7:=q0r (st:=q3k) l7 c7 k7
 have B7:=F7.binds (ps:=["town", "some", "one", "other"]) fun _ _ _ _ _ _ us hl=>len4 (fun _ _ _ _=>rfl) us hl
 have F8:=q0r (st:=q3v) l8 c8 k8
 have B8:=F8.binds (ps:=["crew_of", "crews"]) fun _ _ _ _ _ _ us hl=>len2 (fun _ _=>rfl) us hl
 have F9:=q0r (st:=q3f) l9 c9 k9
 have B9:=F9.binds (ps:=["town", "dealing", "first"]) fun _ _ _ _ _ _ us hl=>len3 (fun _ _ _=>rfl) us hl
 have F10:=q0r (st:=q2q) l10 c10 k10
 have B10:=F10.binds (ps:=["crew_of", "end", "pushed_by"]) fun _ _ _ _ _ _ us hl=>len3 (fun _ _ _=>rfl) us hl
 have F11:=q0r (st:=q9n) l11 c11 k11
 have B11:=F11.binds (ps:=["ends", "huddles"]) fun _ _ _ _ _ _ us hl=>len2 (fun _ _=>rfl) us hl
 have F12:=q0r (st:=q42) l12 c12 k12
 have B12:=F12.binds (ps:=["town", "bridges"]) fun _ _ _ _ _ _ us hl=>len2 (fun _ _=>rfl) us hl
 have F13:=q0r (st:=q3g) l13 c13 k13
 have B13:=F13.binds (ps:=["huddles", "quarters"]) fun _ _ _ _ _ _ us hl=>len2 (fun _ _=>rfl) us hl
 have F14:=q0r (st:=q74) l14 c14 k14
 have B14:=F14.binds (ps:=["town", "crews"]) fun _ _ _ _ _ _ us hl=>len2 (fun _ _=>rfl) us hl
 have F16:=q0r (st:=sInit) l16 c16 k16
 have B16:=F16.binds (ps:=["self", "quarters", "bridges"]) fun _ _ _ _ _ _ us hl=>len3 (fun _ _ _=>rfl) us hl
 have F40:=q0r (st:=q2v) l40 c40 k40
 have B40:=F40.binds (ps:=["numbers", "count"]) fun _ _ _ _ _ _ us hl=>len2 (fun _ _=>rfl) us hl
 have F41:=q0r (st:=q41) l41 c41 k41
 have B41:=F41.binds (ps:=["wages", "bridges"]) fun _ _ _ _ _ _ us hl=>len2 (fun _ _=>rfl) us hl
 have F42:=q0r (st:=z0d) l42 c42 k42
 have B42:=F42.binds (ps:=["wage", "wages"]) fun _ _ _ _ _ _ us hl=>len2 (fun _ _=>rfl) us hl
 have F43:=q0r (st:=q5s) l43 c43 k43
 have B43:=F43.binds (ps:=["dealing", "wages"]) fun _ _ _ _ _ _ us hl=>len2 (fun _ _=>rfl) us hl
 have F44:=q0r (st:=q3z) l44 c44 k44
 have B44:=F44.binds (ps:=["town", "crews", "wages", "order"]) fun _ _ _ _ _ _ us hl=>len4 (fun _ _ _ _=>rfl) us hl
 have F45:=q0r (st:=q31) l45 c45 k45
 have B45:=F45.binds (ps:=["town", "crews", "wages"]) fun _ _ _ _ _ _ us hl=>len3 (fun _ _ _=>rfl) us hl
 have F32:=q0r (st:=q2u) l32 c32 k32
 have B32:=F32.binds (ps:=["quarters", "huddles"]) fun _ _ _ _ _ _ us hl=>len2 (fun _ _=>rfl) us hl
 have F33:=q0r (st:=q3x) l33 c33 k33
 have B33:=F33.binds (ps:=["town", "crews"]) fun _ _ _ _ _ _ us hl=>len2 (fun _ _=>rfl) us hl
 have F34:=q0r (st:=q2w) l34 c34 k34
 have B34:=F34.binds (ps:=["town", "crews"]) fun _ _ _ _ _ _ us hl=>len2 (fun _ _=>rfl) us hl
 have F46:=q0r (st:=q2e) l46 c46 k46
 have B46:=F46.binds (ps:=["town", "crews", "wages"]) fun _ _ _ _ _ _ us hl=>len3 (fun _ _ _=>rfl) us hl
 have F50:=q0r (st:=q3j) l50 c50 k50
 have B50:=F50.binds (ps:=["script", "many"]) fun _ _ _ _ _ _ us hl=>len2 (fun _ _=>rfl) us hl
 have F51:=q0r (st:=q6h) l51 c51 k51
 have B51:=F51.binds (ps:=["script", "many"]) fun _ _ _ _ _ _ us hl=>len2 (fun _ _=>rfl) us hl
 have F52:=q0r (st:=sTown) l52 c52 k52
 have B52:=F52.binds (ps:=["numbers", "most"]) fun _ _ _ _ _ _ us hl=>len2 (fun _ _=>rfl) us hl
 have F81:=q0r (st:=q3l) l81 c81 k81
 have B81:=F81.binds (ps:=["self"]) fun _ _ _ _ _ _ us hl=>len1 (fun _=>rfl) us hl
 have F82:=q0r (st:=q3e) l82 c82 k82
 have B82:=F82.binds (ps:=["self"]) fun _ _ _ _ _ _ us hl=>len1 (fun _=>rfl) us hl
 have F57:=q0r (st:=sWord) l57 c57 k57
 have B57:=F57.binds (ps:=["way", "town", "crews", "wages"]) fun _ _ _ _ _ _ us hl=>len4 (fun _ _ _ _=>rfl) us hl
 have F58:=q0r (st:=q4u) l58 c58 k58
 have B58:=F58.binds (ps:=["wages", "fault", "numbers", "large"]) fun _ _ _ _ _ _ us hl=>len4 (fun _ _ _ _=>rfl) us hl
 have F30:=q0r (st:=sLaw) l30 c30 k30
 refine ⟨W.fnOf "law" "law" (q0e sLaw) (q0d sLaw) (q03 sLaw) .none kV30 dc30 pm30 an30 cd30 ct30,fun s v=>.of_eq rfl,fun base _ _=>?_⟩
 have G60:=ok_wayTo (P:=l.prog) (w:=w) (base:=base) T F60
 have G2:=ok_join (P:=l.prog) (w:=w) (base:=base) F2 F1 B1 (W.mg_of X G a1)
 have G3:=ok_check T F3 G2 B2 (W.mg_of X G a2) k2
 have G5:=ok_steps (P:=l.prog) (w:=w) (base:=base) T F5
 have G6:=ok_reach (P:=l.prog) (w:=w) (base:=base) T F6
 have G7:=ok_between T F7 G5 B5 (W.mg_of X G a5) k5 G6 B6 (W.mg_of X G a6) k6 G60 B60 (W.mg_of X G a60) k60
 have G8:=ok_dealOf (P:=l.prog) (w:=w) (base:=base) T F8
 have G9:=ok_roomFor T F9 G7 B7 (W.mg_of X G a7) k7
 have G10:=q9y (P:=l.prog) (w:=w) (base:=base) T F10
 have G11:=ok_lies (P:=l.prog) (w:=w) (base:=base) T F11
 have G61:=ok_togT (P:=l.prog) (w:=w) (base:=base) T F61
 have G12:=ok_endsOf T F12 G61 B61 (W.mg_of X G a61) k61
 have G13:=ok_withHud (P:=l.prog) (w:=w) (base:=base) T F13
 have G62:=ok_rows T F62 ⟨G11,B11,(W.mg_of X G a11),k11⟩ ⟨G9,B9,(W.mg_of X G a9),k9⟩ ⟨G8,B8,(W.mg_of X G a8),k8⟩ ⟨G13,B13,(W.mg_of X G a13),k13⟩ ⟨G12,B12,(W.mg_of X G a12),k12⟩ ⟨G10,B10,(W.mg_of X G a10),k10⟩
 have G14:=ok_dealM T F14 ⟨G62,B62,(W.mg_of X G a62),k62⟩
 have G16:=ok_init T F16 G3 B3 (W.mg_of X G a3) k3
 have G4:=ok_checkCE (P:=l.prog) (w:=w) (base:=base) T F4
 have G69:=K28.B5.ok_together (P:=l.prog) (w:=w) (base:=base) T F61
 have G40:=ok_amounts (P:=l.prog) (w:=w) (base:=base) T F40
 have G41:=ok_checkWE T F41 ⟨G40,B40,(W.mg_of X G a40),k40⟩
 have G42:=ok_bfor (P:=l.prog) (w:=w) (base:=base) T F42
 have G43:=ok_sumOf T F43 G69 B61 (W.mg_of X G a61) k61
 have G44:=ok_dealtW T F44 ⟨G62,B62,(W.mg_of X G a62),k62⟩ ⟨G42,B42,(W.mg_of X G a42),k42⟩ ⟨G43,B43,(W.mg_of X G a43),k43⟩
 have G45:=ok_dearE T F45 G41 B41 (W.mg_of X G a41) k41 G4 B4 (W.mg_of X G a4) k4 ⟨G44,B44,(W.mg_of X G a44),k44⟩
 have G32:=z0k (P:=l.prog) (w:=w) (base:=base) T F32
 have G33:=ok_joined T F33 ⟨G14,B14,(W.mg_of X G a14),k14⟩ ⟨G32,B32,(W.mg_of X G a32),k32⟩
 have G34:=q9l T F34 G4 B4 (W.mg_of X G a4) k4 ⟨G33,B33,(W.mg_of X G a33),k33⟩
 have G46:=ok_cheapE T F46 G41 B41 (W.mg_of X G a41) k41 G34 B34 (W.mg_of X G a34) k34 ⟨G44,B44,(W.mg_of X G a44),k44⟩
 have G50:=ok_Numbers (P:=l.prog) (w:=w) (base:=base) T F50
 have G51:=ok_Large (P:=l.prog) (w:=w) (base:=base) T F51
 have G52:=ok_town (P:=l.prog) (w:=w) (base:=base) T F52
 have G81:=ok_calledS (P:=l.prog) (w:=w) (mg:=mg) (base:=base) F81
 have G82:=ok_calledL (P:=l.prog) (w:=w) (mg:=mg) (base:=base) F82
 have G57:=ok_word T F57 G81 B81 a81 i81 k81 G82 B82 a82 i82 k82 G45 B45 (W.mg_of X G a45) k45 G46 B46 (W.mg_of X G a46) k46
 have G58:=ok_spoilt (P:=l.prog) (w:=w) (base:=base) T F58
 exact ok_law T F30 ⟨G16,B16,⟨mkT,a16,i16,kT⟩,⟨G50,B50,(W.mg_of X G a50),k50⟩,⟨G51,B51,(W.mg_of X G a51),k51⟩,⟨G52,B52,(W.mg_of X G a52),k52⟩,⟨G58,B58,(W.mg_of X G a58),k58⟩,⟨G57,B57,(W.mg_of X G a57),k57⟩⟩
theorem walk {l:W.OpenLaw} {q:Program} {loose:List Str} {XP:(Str→Option Value)→Heap→Prop} {YP:World→Heap→Prop} {d:DefRec} {K:Params→W.Frag} (hn:l.most=some 63) (hdf:d.params.defaults=[])
  (hY:∀ (w:World) (h:Heap),YP w h→(K w.params).In h)
  (F:∀ (w:World) (mg:Str→Option Value) (fa:Addr) (h:Heap),(K w.params).In h→h.Ns mainGlobals mg→mg d.name=some (.ref fa)→
   ∃ fd:FuncData,(∀ (s:Shared) (u:Value),BindsTo s fd ⟨[u],[]⟩ [("script",u)])∧∀ base:Heap,(K w.params).In base→base.Ns mainGlobals mg→FnOk l.prog w (K w.params) mg base CX0 10 fa fd ["script"] (spLaw (K w.params))) :
  W.WalkO q loose XP YP l.row.toRowW d [] (fun f vs=>PySem.call f vs):=
 L2.walk_of (n:=63) (k:=10) (x := "script") (CX:=fun _=>CX0) (sp:=fun w=>spLaw (K w.params)) hn (by decide) hdf ⟨rfl,by decide,by decide⟩ hY F (fun _ _ a ns hl _ hS=>⟨a,ns,rfl,hS,hl,fun _=>rfl⟩) fun _ _ _ _ _ z=>z
end K28
def PySem.W.Fast.tw10457435695045039148 : Unit := ()
def PySem.W.Fast.tw11263415015398129155 : Unit := ()
def PySem.W.Fast.tw11286877524524372634 : Unit := ()
def PySem.W.Fast.tw11418606264576398039 : Unit := ()
def PySem.W.Fast.tw1164663803189015203 : Unit := ()
def PySem.W.Fast.tw11670216107545604972 : Unit := ()
def PySem.W.Fast.tw12885400478548645146 : Unit := ()
def PySem.W.Fast.tw14261707791629726497 : Unit := ()
def PySem.W.Fast.tw14499105474480787988 : Unit := ()
def PySem.W.Fast.tw15194406234696755161 : Unit := ()
def PySem.W.Fast.tw1531305623894463369 : Unit := ()
def PySem.W.Fast.tw15333112685948412698 : Unit := ()
def PySem.W.Fast.tw15648360759352797985 : Unit := ()
def PySem.W.Fast.tw16118609300674864214 : Unit := ()
def PySem.W.Fast.tw16332109376817234032 : Unit := ()
def PySem.W.Fast.tw17248779112429368846 : Unit := ()
def PySem.W.Fast.tw1752720756024727044 : Unit := ()
def PySem.W.Fast.tw17999670812780562542 : Unit := ()
def PySem.W.Fast.tw1950084144579117638 : Unit := ()
def PySem.W.Fast.tw209906398529339731 : Unit := ()
def PySem.W.Fast.tw2456054184030183794 : Unit := ()
def PySem.W.Fast.tw2916635168687193860 : Unit := ()
def PySem.W.Fast.tw3064754301483562777 : Unit := ()
def PySem.W.Fast.tw3127170708109038464 : Unit := ()
def PySem.W.Fast.tw3804898987028574252 : Unit := ()
def PySem.W.Fast.tw4017067228717588374 : Unit := ()
def PySem.W.Fast.tw4172511239285652862 : Unit := ()
def PySem.W.Fast.tw4214382723821509777 : Unit := ()
def PySem.W.Fast.tw4497396411628069111 : Unit := ()
def PySem.W.Fast.tw4679666440310623842 : Unit := ()
def PySem.W.Fast.tw5603118547910490074 : Unit := ()
def PySem.W.Fast.tw5844467147304757403 : Unit := ()
def PySem.W.Fast.tw6255861270591051272 : Unit := ()
def PySem.W.Fast.tw6375094113040153272 : Unit := ()
def PySem.W.Fast.tw7263973079050116973 : Unit := ()
def PySem.W.Fast.tw7984119490510953935 : Unit := ()
def PySem.W.Fast.tw842701376411374909 : Unit := ()
def PySem.W.Fast.tw8961908466628228948 : Unit := ()
def PySem.W.Fast.tw9275297708259691513 : Unit := ()
def PySem.W.Fast.tw930138780508195997 : Unit := ()
def PySem.W.Fast.tw9357082488195088189 : Unit := ()
def PySem.W.Fast.tw9821459984571759631 : Unit := ()
open PySem PySem.W PyProof.Rows
set_option maxRecDepth 100000 in
set_option maxHeartbeats 0 in
theorem PySem.Challenge.cw_bridgecrews_k28_no_wages_holds : PySem.Challenge.rw_bridgecrews_k28_no_wages.Holds := by
 w_on;o_law;k_head;(case hw=>w_witness2)
 k_fill
 refine K28.walk (l:=PySem.Challenge.rw_bridgecrews_k28_no_wages) rfl rfl (fun w h Y=>PySem.W.kIn_of Y) ?F
 case F=>
  intro w mg fa h KX G hmg
  refine' K28.all_mk KX G hmg ?aCE ?aCS ?aCQ ?aC1 ?aC2 ?aC3 ?aC4 ?aC5 ?aC6 ?aC7 ?aC8 ?aC9 ?aC10 ?aC11 ?aCT ?aMQ ?aMB ?aMC ?a61 ?l61 ?c61 ?k61 ?a62 ?l62 ?c62 ?k62 ?a60 ?l60 ?c60 ?k60 ?a1 ?l1 ?c1 ?k1 ?a2 ?l2 ?c2 ?k2 ?a3 ?l3 ?c3 ?k3 ?a4 ?l4 ?c4 ?k4 ?a5 ?l5 ?c5 ?k5 ?a6 ?l6 ?c6 ?k6 ?a7 ?l7 ?c7 ?k7 ?a8 ?l8 ?c8 ?k8 ?a9 ?l9 ?c9 ?k9 ?a10 ?l10 ?c10 ?k10 ?a11 ?l11 ?c11 ?k11 ?a12 ?l12 ?c12 ?k12 ?a13 ?l13 ?c13 ?k13 ?a14 ?l14 ?c14 ?k14 ?a16 ?l16 ?c16 ?k16 ?a40 ?l40 ?c40 ?k40 ?a41 ?l41 ?c41 ?k41 ?a42 ?l42 ?c42 ?k42 ?a43 ?l43 ?c43 ?k43 ?a44 ?l44 ?c44 ?k44 ?a45 ?l45 ?c45 ?k45 ?a32 ?l32 ?c32 ?k32 ?a33 ?l33 ?c33 ?k33 ?a34 ?l34 ?c34 ?k34 ?a46 ?l46 ?c46 ?k46 ?a50 ?l50 ?c50 ?k50 ?a51 ?l51 ?c51 ?k51 ?a52 ?l52 ?c52 ?k52 ?a81 ?l81 ?c81 ?k81 ?a82 ?l82 ?c82 ?k82 ?a57 ?l57 ?c57 ?k57 ?a58 ?l58 ?c58 ?k58 ?a30 ?l30 ?c30 ?k30 ?i16 ?i81 ?i82 ?pg ?hd ?po ?sa ?mkT ?kT ?nf0 ?nf1 ?eS ?b1S ?b2S ?b3S ?b4S ?b7S ?b8S ?s1S ?eL ?b1L ?b2L ?b3L ?b4L ?b7L ?b8L ?s1L ?b5 ?b6 ?n1 ?n2 ?n3 ?sV ?lV ?sL ?lS ?x1 ?y1 ?x2 ?y2 ?x3 ?y3 ?x4 ?y4 ?x5 ?y5 ?x6 ?y6 ?x7 ?y7 ?x8 ?y8 ?x9 ?y9 ?x10 ?y10 ?x11 ?y11 ?z0 ?z1 ?z2 ?z3 ?z4 ?z5 ?z6 ?z7 ?z8 ?z9 ?z10 ?z11 ?z12 ?z13 ?z14 ?z15 ?z16 ?z17
  (case aCE=>k_is)
  (case aCS=>k_is)
  (case aCQ=>k_is)
  (case aC1=>k_is)
  (case aC2=>k_is)
  (case aC3=>k_is)
  (case aC4=>k_is)
  (case aC5=>k_is)
  (case aC6=>k_is)
  (case aC7=>k_is)
  (case aC8=>k_is)
  (case aC9=>k_is)
  (case aC10=>k_is)
  (case aC11=>k_is)
  (case aCT=>k_is)
  (case aMQ=>k_is)
  (case aMB=>k_is)
  (case aMC=>k_is)
  (case a61=>k_is)
  (case l61=>k_is)
  (case c61=>k_is)
  (case k61=>k_is)
  (case a62=>k_is)
  (case l62=>k_is)
  (case c62=>k_is)
  (case k62=>k_is)
  (case a60=>k_is)
  (case l60=>k_is)
  (case c60=>k_is)
  (case k60=>k_is)
  (case a1=>k_is)
  (case l1=>k_is)
  (case c1=>k_is)
  (case k1=>k_is)
  (case a2=>k_is)
  (case l2=>k_is)
  (case c2=>k_is)
  (case k2=>k_is)
  (case a3=>k_is)
  (case l3=>k_is)
  (case c3=>k_is)
  (case k3=>k_is)
  (case a4=>k_is)
  (case l4=>k_is)
  (case c4=>k_is)
  (case k4=>k_is)
  (case a5=>k_is)
  (case l5=>k_is)
  (case c5=>k_is)
  (case k5=>k_is)
  (case a6=>k_is)
  (case l6=>k_is)
  (case c6=>k_is)
  (case k6=>k_is)
  (case a7=>k_is)
  (case l7=>k_is)
  (case c7=>k_is)
  (case k7=>k_is)
  (case a8=>k_is)
  (case l8=>k_is)
  (case c8=>k_is)
  (case k8=>k_is)
  (case a9=>k_is)
  (case l9=>k_is)
  (case c9=>k_is)
  (case k9=>k_is)
  (case a10=>k_is)
  (case l10=>k_is)
  (case c10=>k_is)
  (case k10=>k_is)
  (case a11=>k_is)
  (case l11=>k_is)
  (case c11=>k_is)
  (case k11=>k_is)
  (case a12=>k_is)
  (case l12=>k_is)
  (case c12=>k_is)
  (case k12=>k_is)
  (case a13=>k_is)
  (case l13=>k_is)
  (case c13=>k_is)
  (case k13=>k_is)
  (case a14=>k_is)
  (case l14=>k_is)
  (case c14=>k_is)
  (case k14=>k_is)
  (case a16=>k_is)
  (case l16=>k_is)
  (case c16=>k_is)
  (case k16=>k_is)
  (case a40=>k_is)
  (case l40=>k_is)
  (case c40=>k_is)
  (case k40=>k_is)
  (case a41=>k_is)
  (case l41=>k_is)
  (case c41=>k_is)
  (case k41=>k_is)
  (case a42=>k_is)
  (case l42=>k_is)
  (case c42=>k_is)
  (case k42=>k_is)
  (case a43=>k_is)
  (case l43=>k_is)
  (case c43=>k_is)
  (case k43=>k_is)
  (case a44=>k_is)
  (case l44=>k_is)
  (case c44=>k_is)
  (case k44=>k_is)
  (case a45=>k_is)
  (case l45=>k_is)
  (case c45=>k_is)
  (case k45=>k_is)
  (case a32=>k_is)
  (case l32=>k_is)
  (case c32=>k_is)
  (case k32=>k_is)
  (case a33=>k_is)
  (case l33=>k_is)
  (case c33=>k_is)
  (case k33=>k_is)
  (case a34=>k_is)
  (case l34=>k_is)
  (case c34=>k_is)
  (case k34=>k_is)
  (case a46=>k_is)
  (case l46=>k_is)
  (case c46=>k_is)
  (case k46=>k_is)
  (case a50=>k_is)
  (case l50=>k_is)
  (case c50=>k_is)
  (case k50=>k_is)
  (case a51=>k_is)
  (case l51=>k_is)
  (case c51=>k_is)
  (case k51=>k_is)
  (case a52=>k_is)
  (case l52=>k_is)
  (case c52=>k_is)
  (case k52=>k_is)
  (case a81=>k_is)
  (case l81=>k_is)
  (case c81=>k_is)
  (case k81=>k_is)
  (case a82=>k_is)
  (case l82=>k_is)
  (case c82=>k_is)
  (case k82=>k_is)
  (case a57=>k_is)
  (case l57=>k_is)
  (case c57=>k_is)
  (case k57=>k_is)
  (case a58=>k_is)
  (case l58=>k_is)
  (case c58=>k_is)
  (case k58=>k_is)
  (case a30=>k_is)
  (case l30=>k_is)
  (case c30=>k_is)
  (case k30=>k_is)
  (case i16=>k_is)
  (case i81=>k_is)
  (case i82=>k_is)
  (case pg=>k_is)
  (case hd=>k_is)
  (case po=>k_is)
  (case sa=>k_is)
  (case mkT=>k_is)
  (case kT=>k_is)
  (case nf0=>k_is)
  (case nf1=>k_is)
  (case eS=>k_exc)
  (case b1S=>k_is)
  (case b2S=>k_is)
  (case b3S=>k_is)
  (case b4S=>k_is)
  (case b7S=>k_is)
  (case b8S=>k_is)
  (case s1S=>k_is)
  (case eL=>k_exc)
  (case b1L=>k_is)
  (case b2L=>k_is)
  (case b3L=>k_is)
  (case b4L=>k_is)
  (case b7L=>k_is)
  (case b8L=>k_is)
  (case s1L=>k_is)
  (case b5=>k_is)
  (case b6=>k_is)
  (case n1=>k_is)
  (case n2=>k_is)
  (case n3=>k_is)
  (case sV=>kit_is)
  (case lV=>kit_is)
  (case sL=>kit_is)
  (case lS=>kit_is)
  (case x1=>kit_is)
  (case y1=>kit_is)
  (case x2=>kit_is)
  (case y2=>kit_is)
  (case x3=>kit_is)
  (case y3=>kit_is)
  (case x4=>kit_is)
  (case y4=>kit_is)
  (case x5=>kit_is)
  (case y5=>kit_is)
  (case x6=>kit_is)
  (case y6=>kit_is)
  (case x7=>kit_is)
  (case y7=>kit_is)
  (case x8=>kit_is)
  (case y8=>kit_is)
  (case x9=>kit_is)
  (case y9=>kit_is)
  (case x10=>kit_is)
  (case y10=>kit_is)
  (case x11=>kit_is)
  (case y11=>kit_is)
  (case z0=>k_is)
  (case z1=>k_is)
  (case z2=>k_is)
  (case z3=>k_is)
  (case z4=>k_is)
  (case z5=>k_is)
  (case z6=>k_is)
  (case z7=>k_is)
  (case z8=>k_is)
  (case z9=>k_is)
  (case z10=>k_is)
  (case z11=>k_is)
  (case z12=>k_is)
  (case z13=>k_is)
  (case z14=>k_is)
  (case z15=>k_is)
  (case z16=>k_is)
  (case z17=>k_is)
#print axioms PySem.Challenge.cw_bridgecrews_k28_no_wages_holds
