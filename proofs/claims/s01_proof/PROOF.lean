import PyProof.Rows.All
import Wide.All
import OpenK.AllK
import Wide.FinOn
import PyProof.EqAt
import PyProof.EqKinds
import PyProof.TupleCall
import KE.BitLaws
import Open.SpecLaws
import KE.OsHead
import KE.OsGo
import RgKnown
import WqatcySpec
import PyFlatLaws
import PyWqatcy
import PyProof.EnumMake
import PyProof.Draws
import PySem.Challenge.RW_heardcase_s01_answers
import KE.KDictLaws
import PyProof.Rows.CallKwBuiltin
import KE.KDictList
import KE.KSortTupG
set_option Elab.async false
set_option maxRecDepth 100000
set_option maxHeartbeats 4000000
set_option linter.all false
section
set_option linter.all false
namespace L2
open PySem PySem.Spec PyProof.Rows
abbrev Key:=Sum Int Str
def keyIs:Key→Value→Bool
 | .inl k,v=>Value.isInt k v
 | .inr x,v=>Value.isStrOf x v
def keyH (w:World):Key→Int
 | .inl k=>hashInt k
 | .inr x=>hashStr w x
theorem zbh:∀ {k:Key} {v:Value},keyIs k v=true→(∃ i t,k=Sum.inl i∧v=Value.int i t)∨(∃ x t,k=Sum.inr x∧v=Value.str x t)
 | .inl i,v,h=>by
  obtain ⟨t,e⟩:=Value.isInt_shape (k:=i) (v:=v) h;exact .inl ⟨i,t,rfl,e⟩
 | .inr x,v,h=>by
  obtain ⟨t,e⟩:=Value.isStrOf_shape (x:=x) (v:=v) h;exact .inr ⟨x,t,rfl,e⟩
theorem keyIs_int (i:Int)(t:Tok):keyIs (.inl i) (.int i t)=true:=by simp [keyIs,Value.isInt]
theorem zl3 (x:Str)(t:Tok):keyIs (.inr x) (.str x t)=true:=by simp [keyIs,Value.isStrOf]
theorem key_ll (a b:Int):decide ((Sum.inl a:Key)=Sum.inl b)=(a==b):=by
 by_cases e:a=b
 ·subst e;simp
 ·have h:¬ (Sum.inl a:Key)=Sum.inl b:=fun q=>e (Sum.inl.inj q);rw [decide_eq_false h];exact (beq_eq_false_iff_ne.mpr e).symm
theorem key_rr (a b:Str):decide ((Sum.inr a:Key)=Sum.inr b)=decide (a=b):=by
 by_cases e:a=b
 ·subst e;simp
 ·have h:¬ (Sum.inr a:Key)=Sum.inr b:=fun q=>e (Sum.inr.inj q);rw [decide_eq_false h,decide_eq_false e]
theorem key_lr (a:Int)(b:Str):decide ((Sum.inl a:Key)=Sum.inr b)=false:=decide_eq_false (fun q=>nomatch q)
theorem key_rl (a:Str)(b:Int):decide ((Sum.inr a:Key)=Sum.inl b)=false:=decide_eq_false (fun q=>nomatch q)
def mixKind (prog:Program)(w:World):PySem.KeyKind prog w Key where
 is:=keyIs
 hash:=keyH w
 inj:=fun v a b ha hb=>by
  rcases zbh ha with ⟨i,t,rfl,rfl⟩ | ⟨x,t,rfl,rfl⟩
  ·rcases zbh hb with ⟨j,u,rfl,e⟩ | ⟨y,u,rfl,e⟩
   ·injection e with e1 _;rw [e1]
   ·exact nomatch e
  ·rcases zbh hb with ⟨j,u,rfl,e⟩ | ⟨y,u,rfl,e⟩
   ·exact nomatch e
   ·injection e with e1 _;rw [e1]
 byValue:=fun k v h=>by
  rcases zbh h with ⟨i,t,rfl,rfl⟩ | ⟨x,t,rfl,rfl⟩ <;> rfl
 pyHash:=fun hv h=>by
  rcases zbh hv with ⟨i,t,rfl,rfl⟩ | ⟨x,t,rfl,rfl⟩
  ·exact wpAny_pyHash_int h
  ·exact wpAny_pyHash_str h
 eqBool:=fun hu hv h=>by
  rcases zbh hu with ⟨i,t,rfl,rfl⟩ | ⟨x,t,rfl,rfl⟩
  ·rcases zbh hv with ⟨j,u,rfl,rfl⟩ | ⟨y,u,rfl,rfl⟩
   ·rw [key_ll] at h;exact wpAny_eqBool_int h
   ·rw [key_lr] at h;exact SeqAt.EqAt.int_str i t y u _ _ _ _ h
  ·rcases zbh hv with ⟨j,u,rfl,rfl⟩ | ⟨y,u,rfl,rfl⟩
   ·rw [key_rl] at h;exact SeqAt.EqAt.str_int x t j u _ _ _ _ h
   ·rw [key_rr] at h;exact wpAny_eqBool_str h
 «strs»:=fun k x t v h=>by
  rcases zbh h with ⟨i,u,rfl,e⟩ | ⟨y,u,rfl,e⟩
  ·exact nomatch e
  ·injection e with e1 _;subst e1;cases v <;> rfl
theorem ztt (prog:Program)(w:World)(i:Int)(t:Tok):(mixKind prog w).is (.inl i) (.int i t)=true:=keyIs_int i t
theorem zts (prog:Program)(w:World)(x:Str)(t:Tok):(mixKind prog w).is (.inr x) (.str x t)=true:=zl3 x t
end L2
namespace L2
open PySem PySem.Spec PyProof.Rows
inductive V where
 | non | bl (b:Bool) | int (i:Int) | str (x:Str) | byt (b:Array UInt8) | flt (b:UInt64) | ref (a:Addr) | ty (n:String)
 deriving DecidableEq
def RelV:V→Value→Prop
 | .non,u=>u=Value.none
 | .bl b,u=>u=Value.bool b
 | .int i,u=>∃ t,u=Value.int i t
 | .str x,u=>∃ t,u=Value.str x t
 | .byt b,u=>∃ t,u=Value.bytes b t
 | .flt b,u=>∃ t,u=Value.float b t
 | .ref a,u=>u=Value.ref a
 | .ty n,u=>u=Value.type n
abbrev Vals:List V→List Value→Prop:=Paired RelV
theorem Vals.length {xs:List V}{us:List Value}(r:Vals xs us):xs.length=us.length:=Paired.length r
theorem Vals.get:∀ {xs:List V} {us:List Value} {i:Nat} {x:V},Vals xs us→xs[i]? = some x→∃ u,us[i]? = some u∧RelV x u
 | _,_,_,_,.nil,e=>by simp at e
 | _,_,0,_,.cons r _,e=>by simp at e;subst e;exact ⟨_,rfl,r⟩
 | _,_,i+1,x,.cons _ t,e=>by
  obtain ⟨u,h1,h2⟩:=Vals.get (i:=i) (x:=x) t (by simpa using e)
  exact ⟨u,by simpa using h1,h2⟩
theorem Vals.append:∀ {xs ys:List V} {us ws:List Value},Vals xs us→Vals ys ws→Vals (xs++ys) (us++ws)
 | _,_,_,_,.nil,s=>s
 | _,_,_,_,.cons r t,s=>.cons r (Vals.append t s)
theorem Vals.take:∀ {xs:List V} {us:List Value} (n:Nat),Vals xs us→Vals (xs.take n) (us.take n)
 | _,_,0,_=>.nil
 | _,_,_+1,.nil=>.nil
 | _,_,n+1,.cons r t=>.cons r (Vals.take n t)
theorem Vals.drop:∀ {xs:List V} {us:List Value} (n:Nat),Vals xs us→Vals (xs.drop n) (us.drop n)
 | _,_,0,r=>r
 | _,_,_+1,.nil=>.nil
 | _,_,n+1,.cons _ t=>Vals.drop n t
def RelO:Option V→Option Value→Prop
 | some v,some u=>RelV v u
 | none,none=>True
 | _,_=>False
def KV {κ:Type}:List (κ×V)→List (κ×Value)→Prop:=Paired fun (p:κ×V) (q:κ×Value)=>p.1=q.1∧RelV p.2 q.2
def kV:Key→V
 | .inl i=>.int i
 | .inr x=>.str x
inductive HO where
 | lst (xs:List V)
 | tup (xs:List V)
 | dK (kvs:List (Key×V)) | dT (kvs:List (List Key×V))
 | set (S:Int→Bool) (n:Nat)
 | ins (C dx:Addr) (fs:List (Str×V))
 | own (x:Addr)
 | xd (fs:List (Str×V))
 | met (f x:Addr)
 | rng (lo hi:Int)
 | frz (o:Obj) (u:HO)
 | tbl (ps:Array Value)
 | ext (φ:Heap→Prop)
abbrev Hp:=Addr→Option HO
def upd (H:Hp)(a:Addr)(o:HO):Hp:=fun b=>if b=a then some o else H b
theorem zaa {H:Hp}{a:Addr}{o:HO}:upd H a o a=some o:=by unfold upd;rw [if_pos rfl]
theorem zac {H:Hp}{a b:Addr}{o:HO}(h:b≠a):upd H a o b=H b:=by unfold upd;rw [if_neg h]
theorem zdd {H:Hp}{a b:Addr}{o u:HO}(h:H a=some o)(h':H b=some u)(d:o≠u):a≠b:=by
 intro e;subst e;rw [h] at h';exact d (Option.some.inj h')
theorem zag {H:Hp}{a b:Addr}{o:HO}(h:H a=some o)(h':H b=none):a≠b:=by
 intro e;subst e;rw [h] at h';cases h'
section
variable (P:Program)(w:World)
def ObjOk (H:Hp)(h:Heap)(a:Addr):HO→Prop
 | .lst xs=>xs.length≤sizeLine∧∃ (its:List Value) (n:Nat),Vals xs its∧h.get? a=some {cls:=.type "list",data:=.seq its.toArray n}
 | .tup xs=>xs.length≤sizeLine∧∃ its:List Value,Vals xs its∧IsTup h a its.toArray
 | .dK kvs=>kvs.length≤sizeLine∧(a==sysModules)=false∧∃ vs,KV kvs vs∧h.DictOf (mixKind P w) a vs
 | .dT kvs=>kvs.length≤sizeLine∧(a==sysModules)=false∧∃ xs:List (List Key×Addr×Value),
   Paired (fun (p:List Key×V) (q:List Key×Addr×Value)=>p.1=q.1∧H q.2.1=some (.tup (p.1.map kV))∧RelV p.2 q.2.2) kvs xs∧
   ∃ o es ep,h.get? a=some o∧o.ExactDict∧o.data=.dict es ep∧es.toList=xs.map (entryOfKey (tupleKind (mixKind P w)))∧(xs.map (·.1)).Nodup
 | .set S n=>h.SetOf (intKind P w) a S n
 | .ins C dx fs=>H dx=some (.own a)∧fs.length≤1000∧dx≠a∧h.get? a=some (PySem.W.instObj C dx)∧
   ∃ mA,h.Ns1 dx mA∧(∀ f,RelO (fs.lookup f) (mA f))∧PySem.Within mA (fs.map (·.1))
 | .own _=>∃ o,h.get? a=some o
 | .xd fs=>∃ mA,h.Ns1 a mA∧∀ f,RelO (fs.lookup f) (mA f)
 | .rng lo hi=>∃ t u v,h.get? a=some {cls:=.type "range",data:=.fields #[.int lo t,.int hi u,.int 1 v]}
 | .frz o u=>h.get? a=some o∧ObjOk H h a u
 | .tbl ps=>h.get? a=some {cls:=.none,data:=.fields ps}
 | .met f x=>h.get? a=some (PySem.W.methodObj (.ref f) (.ref x))
 | .ext φ=>φ h∧(∃ o,h.get? a=some o)∧∀ h1 h2:Heap,φ h1→(∀ o,h1.get? a=some o→h2.get? a=some o)→φ h2
def HOk (H:Hp)(h:Heap):Prop:=∀ a o,H a=some o→ObjOk P w H h a o
end
section
variable {P:Program}{w:World}{H H':Hp}{h h':Heap}{a:Addr}{o:HO}
theorem ObjOk.lt (x:ObjOk P w H h a o):a<h.objs.size:=by
 cases o with
 | lst xs=>obtain ⟨_,_,_,_,e⟩:=x;exact Heap.lt_size e
 | tup xs=>obtain ⟨_,_,_,p⟩:=x;exact p.lt
 | dK kvs=>obtain ⟨_,_,_,_,o,_,_,e,_⟩:=x;exact Heap.lt_size e
 | dT kvs=>obtain ⟨_,_,_,_,o,_,_,e,_⟩:=x;exact Heap.lt_size e
 | set S n=>obtain ⟨o,_,_,_,e,_⟩:=x;exact Heap.lt_size e
 | ins C dx fs=>obtain ⟨_,_,_,e,_⟩:=x;exact Heap.lt_size e
 | own y=>obtain ⟨_,e⟩:=x;exact Heap.lt_size e
 | xd fs=>obtain ⟨_,⟨_,_,_,e,_⟩,_⟩:=x;exact Heap.lt_size e
 | rng lo hi=>obtain ⟨_,_,_,e⟩:=x;exact Heap.lt_size e
 | frz ob u=>obtain ⟨e,_⟩:=x;exact Heap.lt_size e
 | tbl ps=>exact Heap.lt_size (show h.get? a=some _ from x)
 | met f y=>exact Heap.lt_size (show h.get? a=some _ from x)
 | ext φ=>obtain ⟨_,⟨_,e⟩,_⟩:=x;exact Heap.lt_size e
theorem Paired.mapP {α β:Type}{F G:α→β→Prop}:∀ {l₁:List α} {l₂:List β},Paired F l₁ l₂→(∀ a b,F a b→G a b)→Paired G l₁ l₂
 | _,_,.nil,_=>.nil
 | _,_,.cons r t,f=>.cons (f _ _ r) (Paired.mapP t f)
theorem ObjOk.stay (x:ObjOk P w H h a o)(k:∀ b u,(b=a∨H b=some (.own a))→h.get? b=some u→h'.get? b=some u)(ho:∀ b,H b=some (.own a)→H' b=some (.own a))(ht:∀ b xs,H b=some (.tup xs)→H' b=some (.tup xs)):ObjOk P w H' h' a o:=by
 induction o with
 | lst xs=>obtain ⟨z,its,n,r,e⟩:=x;exact ⟨z,its,n,r,k _ _ (.inl rfl) e⟩
 | tup xs=>obtain ⟨z,its,r,ob,e,c⟩:=x;exact ⟨z,its,r,ob,k _ _ (.inl rfl) e,c⟩
 | dK kvs=>obtain ⟨z,y,vs,r,ob,es,ep,e,c⟩:=x;exact ⟨z,y,vs,r,ob,es,ep,k _ _ (.inl rfl) e,c⟩
 | dT kvs=>
  obtain ⟨z,y,xs,r,ob,es,ep,e,c⟩:=x;exact ⟨z,y,xs,Paired.mapP r fun p q z=>⟨z.1,ht _ _ z.2.1,z.2.2⟩,ob,es,ep,k _ _ (.inl rfl) e,c⟩
 | set S n=>obtain ⟨ob,es,ep,t,e,c⟩:=x;exact ⟨ob,es,ep,t,k _ _ (.inl rfl) e,c⟩
 | ins C dx fs=>
  obtain ⟨d,z,ne,e,mA,⟨od,es,ep,e2,c⟩,r⟩:=x;exact ⟨ho _ d,z,ne,k _ _ (.inl rfl) e,mA,⟨od,es,ep,k _ _ (.inr d) e2,c⟩,r⟩
 | own y=>obtain ⟨ob,e⟩:=x;exact ⟨ob,k _ _ (.inl rfl) e⟩
 | xd fs=>obtain ⟨mA,⟨od,es,ep,e,c⟩,r⟩:=x;exact ⟨mA,⟨od,es,ep,k _ _ (.inl rfl) e,c⟩,r⟩
 | rng lo hi=>obtain ⟨t,u,v,e⟩:=x;exact ⟨t,u,v,k _ _ (.inl rfl) e⟩
 | frz ob u ih=>obtain ⟨e,q⟩:=x;exact ⟨k _ _ (.inl rfl) e,ih q⟩
 | tbl ps=>
  have e:h.get? a=some {cls:=.none,data:=.fields ps}:=x;show h'.get? a=some {cls:=.none,data:=.fields ps};exact k a _ (.inl rfl) e
 | met f y=>
  have e:h.get? a=some (PySem.W.methodObj (.ref f) (.ref y)):=x;show h'.get? a=some (PySem.W.methodObj (.ref f) (.ref y));exact k a _ (.inl rfl) e
 | ext φ=>obtain ⟨p,⟨o,e⟩,st⟩:=x;exact ⟨st _ _ p fun o q=>k _ _ (.inl rfl) q,⟨o,k _ _ (.inl rfl) e⟩,st⟩
theorem HOk.lt (x:HOk P w H h)(e:H a=some o):a<h.objs.size:=(x a o e).lt
theorem HOk.fresh (x:HOk P w H h)(e:h.objs.size≤a):H a=none:=by
 cases q:H a with
 | none=>rfl
 | some u=>exact absurd (Nat.lt_of_lt_of_le (x.lt q) e) (Nat.lt_irrefl _)
theorem HOk.kept (x:HOk P w H h)(k:∀ b u,h.get? b=some u→h'.get? b=some u):HOk P w H h':=fun a o e=>
 (x a o e).stay (fun b u _ q=>k b u q) (fun _ q=>q) fun _ _ q=>q
theorem HOk.laid (x:HOk P w H h)(k:∀ b u,h.get? b=some u→h'.get? b=some u)(hp:h.objs.size≤a)(new:ObjOk P w (upd H a o) h' a o):HOk P w (upd H a o) h':=fun b u e=>by
 have hn:=x.fresh hp;by_cases hb:b=a
 ·subst hb;rw [zaa] at e;cases e;exact new
 ·rw [zac hb] at e;exact (x b u e).stay (fun c v _ q=>k c v q) (fun c q=>by rw [zac (zag q hn)];exact q) fun c xs q=>by rw [zac (zag q hn)];exact q
end
def Rd (H:Hp)(a:Addr)(u:HO):Prop:=H a=some u∨∃ o,H a=some (.frz o u)
theorem Rd.ok {P:Program}{w:World}{H:Hp}{h:Heap}{a:Addr}{u:HO}(r:Rd H a u)(x:HOk P w H h):ObjOk P w H h a u:=by
 rcases r with r | ⟨o,r⟩
 ·exact x a u r
 ·obtain ⟨_,q⟩:=x a _ r;exact q
def Mut:Option HO→Prop
 | some (.lst _)=>True
 | some (.dK _)=>True
 | some (.dT _)=>True
 | some (.set _ _)=>True
 | some (.ins _ _ _)=>True
 | some (.ext _)=>True
 | _=>False
section
variable {P:Program}{w:World}{H:Hp}{h h':Heap}{x e:Addr}{o':HO}
theorem HOk.write (ok:HOk P w H h)(mu:Mut (H x))(he:e=x∨H e=some (.own x))(k:∀ b u,b≠e→h.get? b=some u→h'.get? b=some u)(heo:∃ u,h'.get? e=some u)(new:ObjOk P w (upd H x o') h' x o'):HOk P w (upd H x o') h':=fun b u q=>by
 have nown:∀ c y,H c=some (.own y)→c≠x:=fun c y r z=>by subst z;rw [r] at mu;exact mu
 have ntup:∀ c xs,H c=some (.tup xs)→c≠x:=fun c xs r z=>by subst z;rw [r] at mu;exact mu
 by_cases hb:b=x
 ·subst hb;rw [zaa] at q;cases q;exact new
 ·rw [zac hb] at q;by_cases hbe:b=e
  ·have q':H b=some (.own x):=by
    rcases he with z | z
    ·exact absurd (hbe.trans z) hb
    ·rw [hbe];exact z
   rw [q] at q';cases q';obtain ⟨v,hv⟩:=heo;exact ⟨v,by rw [hbe];exact hv⟩
  ·refine (ok b u q).stay (fun c v hc r=>k c v ?_ r) (fun c r=>by rw [zac (nown c b r)];exact r) fun c xs r=>by rw [zac (ntup c xs r)];exact r
   rcases hc with rfl | hc
   ·exact hbe
   ·rintro rfl;rcases he with z | z
    ·exact nown c b hc z
    ·rw [hc] at z;cases z;exact hb rfl
end
structure Un (fs ex:List Addr)(H H':Hp)(h h':Heap):Prop where
 keep:∀ b o,h.get? b=some o→H b=none→b∉fs→b∉ex→h'.get? b=some o
 slot:∀ b o,h.get? b=some o→H b=none→b∈fs→b∉ex→∃ sl,h'.get? b=some {o with slots:=sl}
 free:∀ b o,h.get? b=some o→H b=none→b∉ex→H' b=none
 there:∀ b o,h.get? b=some o→b∉ex→∃ o',h'.get? b=some o'
 tups:∀ b xs,H b=some (.tup xs)→H' b=some (.tup xs)
 frzs:∀ b o u,H b=some (.frz o u)→H' b=some (.frz o u)
 tbls:∀ b ps,H b=some (.tbl ps)→∃ more,H' b=some (.tbl (ps++more))
section
variable {fs fs' ex ex':List Addr}{H H1 H2:Hp}{h h1 h2 h':Heap}{a x e:Addr}{o:HO}
theorem Un.any (u:Un fs ex H H1 h h1){b:Addr}{ob:Obj}(q:h.get? b=some ob)(n:H b=none)(hx:b∉ex):∃ sl,h1.get? b=some {ob with slots:=sl}:=by
 by_cases hb:b∈fs
 ·exact u.slot b ob q n hb hx
 ·exact ⟨ob.slots,u.keep b ob q n hb hx⟩
theorem Un.kept (k:∀ b u,h.get? b=some u→h'.get? b=some u):Un fs ex H H h h':=
 ⟨fun b ob q _ _ _=>k b ob q,fun b ob q _ _ _=>⟨ob.slots,k b ob q⟩,fun _ _ _ n _=>n,fun b ob q _=>⟨ob,k b ob q⟩,fun _ _ q=>q,fun _ _ _ q=>q,fun _ ps q=>⟨#[],by rw [q];simp⟩⟩
theorem Un.refl:Un fs ex H H h h:=Un.kept fun _ _ q=>q
theorem Un.laid (k:∀ b u,h.get? b=some u→h'.get? b=some u)(hp:h.objs.size≤a)(hn:H a=none):Un fs ex H (upd H a o) h h' where
 keep:=fun b u q _ _ _=>k b u q
 slot:=fun b u q _ _ _=>⟨u.slots,k b u q⟩
 free:=fun b u q n _=>by rw [zac (Nat.ne_of_lt (Nat.lt_of_lt_of_le (Heap.lt_size q) hp))];exact n
 there:=fun b u q _=>⟨u,k b u q⟩
 tups:=fun b xs q=>by rw [zac (zag q hn)];exact q
 frzs:=fun b u xs q=>by rw [zac (zag q hn)];exact q
 tbls:=fun b ps q=>⟨#[],by rw [zac (zag q hn),q];simp⟩
theorem Un.write (mu:Mut (H x))(he:e=x∨H e=some (.own x))(k:∀ b u,b≠e→h.get? b=some u→h'.get? b=some u)(heo:∃ u,h'.get? e=some u):Un fs ex H (upd H x o) h h':=by
 have hx:∀ b,H b=none→b≠x:=fun b n z=>by subst z;rw [n] at mu;exact mu
 have hb:∀ b,H b=none→b≠e:=fun b n z=>by
  subst z;rcases he with r | r
  ·exact hx b n r
  ·rw [n] at r;cases r
 have hm:∀ b u,H b=some u→¬ Mut (some u)→b≠x:=fun b u q nm z=>by subst z;rw [q] at mu;exact nm mu
 refine ⟨fun b u q n _ _=>k b u (hb b n) q,fun b u q n _ _=>⟨u.slots,k b u (hb b n) q⟩,fun b u q n _=>by rw [zac (hx b n)];exact n,fun b u q _=>?_,
  fun b xs q=>by rw [zac (hm b _ q fun z=>z)];exact q,fun b u xs q=>by rw [zac (hm b _ q fun z=>z)];exact q,fun b ps q=>⟨#[],by rw [zac (hm b _ q fun z=>z),q];simp⟩⟩
 by_cases hbe:b=e
 ·subst hbe;exact heo
 ·exact ⟨u,k b u hbe q⟩
end
def trk (h:Heap)(H:Hp):List Addr:=(List.range h.objs.size).filter fun a=>(H a).isSome
def hidT (h:Heap)(H:Hp):Heap:=PySem.W.hideAll h (trk h H)
theorem hidT_size (h:Heap)(H:Hp):(hidT h H).objs.size=h.objs.size:=PySem.W.hideAll_size _ _
theorem hidT_get {h:Heap}{H:Hp}{b:Addr}{o:Obj}(e:h.get? b=some o)(n:H b=none):(hidT h H).get? b=some o:=
 PySem.W.hideAll_get _ e fun hm=>by
  have q:(H b).isSome=true:=(List.mem_filter.mp hm).2;rw [n] at q;simp at q
theorem of_hidT {h:Heap}{H:Hp}{b:Addr}{o:Obj}(e:(hidT h H).get? b=some o):h.get? b=some o∧H b=none:=by
 have e':h.get? b=some o:=PySem.W.of_hideAll (trk h H) e;refine ⟨e',?_⟩;cases q:H b with
 | none=>rfl
 | some x=>
  have hm:b∈trk h H:=List.mem_filter.mpr ⟨List.mem_range.mpr (Heap.lt_size e'),by simp [q]⟩
  have z:(hidT h H).get? b=none:=PySem.W.hideAll_none (trk h H) hm;rw [z] at e;cases e
def allNews (g h:Heap)(L:Addr):List (Addr×Obj):=(List.range h.objs.size).filterMap fun a=>if a=L∨(g.get? a).isSome=true then none else (h.get? a).map fun o=>(a,o)
def rest (g h:Heap)(L d:Addr):List (Addr×Obj):=(allNews g h L).filter fun p=>decide (p.1≠d)
end L2
namespace L2
open PySem PySem.Spec PyProof.Rows
structure Mod (K:PySem.W.Frag)(mg:Str→Option Value)(base:Heap):Prop where
 kin:K.In base
 glob:base.Ns mainGlobals mg
 blt:∃ mb,base.Ns builtinsNs mb∧∀ x:Str,x≠"__name__"→mb x=bootBuiltins x
 nolimit:base.NoLimit
structure Cx where
 prog:Program
 w:World
 K:PySem.W.Frag
 mg:Str→Option Value
 base:Heap
 A:Around
 N:List Str
 s_0:Shared
 H_0:Hp
 env:Env
 outer:List Env
 stack:List Env
 ex:List Addr
 fn:Str→Bool
 calm:Bool
 pn:List (Addr×Obj)
 xe:Value→Shared→Prop
def frs (l:List Env):List Addr:=l.filterMap (·.frame)
abbrev Cx.fs (X:Cx):List Addr:=frs X.outer
def Vis (sc:Scope)(x:Str):Prop:=sc.names.lookup x=some .local∨sc.names.lookup x=some .cell∨sc.names.lookup x=some .free
def Loc (sc:Scope)(x:Str):Prop:=sc.names.lookup x=some .local∨sc.names.lookup x=some .cell
def Look (env:Env)(h:Heap)(m:Str→Option Value)(x:Str)(u:Value):Prop:=
 (env.kindOf x=some .local∧m x=some u)∨((env.kindOf x=some .cell∨env.kindOf x=some .free)∧∃ c,env.cells.lookup x=some c∧h.IsCell c (some u))
structure Cx.Ok (X:Cx):Prop where
 mod:Mod X.K X.mg X.base
 kind:X.env.scope.kind=.function
 glob:X.env.globals=mainGlobals
 blt:X.env.builtins=builtinsNs
 above:X.s_0.heap.objs.size≤X.env.locals
 inj:∀ x y c,X.env.cells.lookup x=some c→X.env.cells.lookup y=some c→x=y
 has:∀ x,(X.env.kindOf x=some .cell∨X.env.kindOf x=some .free)→∃ c,X.env.cells.lookup x=some c
 cab:∀ x c,X.fn x=true→X.env.cells.lookup x=some c→X.s_0.heap.objs.size≤c
 hd:X.calm=true→X.A.handled=none
 frames:X.A.frames=some X.stack
 stk:X.stack=X.outer∨(X.stack=X.env::X.outer∧X.env.frame=some X.env.locals)
 exf:∀ b∈X.ex,b≠X.env.locals∧∀ x c,X.env.cells.lookup x=some c→c≠b
 bs:∀ b o,X.base.get? b=some o→X.s_0.heap.get? b=some o∧X.H_0 b=none
 bsz:X.base.objs.size≤X.s_0.heap.objs.size
 noex:∀ b o,X.base.get? b=some o→b∉X.ex
 exfs:∀ b∈X.ex,b∉X.fs
 funs:X.s_0.heap.FunFrames X.base X.outer
 frf:∀ b∈X.fs,X.H_0 b=none
structure Inv (X:Cx)(pins:List (Addr×Obj))(σ:List (Option V))(H:Hp)(s:Shared):Prop where
 ok:X.Ok
 os:s.os=X.s_0.os
 bare:AllBare s.gens
 base:Un X.fs X.ex X.H_0 H X.s_0.heap s.heap
 loc:∃ m,s.heap.Ns X.env.locals m∧∀ (i:Nat) (x:Str) (v:V),X.N[i]? = some x→σ[i]? = some (some v)→Vis X.env.scope x→∃ u,RelV v u∧Look X.env s.heap m x u
 cell:∀ x c,X.env.cells.lookup x=some c→∃ v,s.heap.IsCell c v
 free:H X.env.locals=none
 freeC:∀ x c,X.env.cells.lookup x=some c→H c=none
 pin:∀ p∈X.pn++pins,s.heap.get? p.1=some p.2∧H p.1=none∧p.1≠X.env.locals∧p.1∉X.fs∧∀ v,p.2.data≠.cell v
 hok:HOk X.prog X.w H s.heap
 len:σ.length=X.N.length
section
variable {X:Cx}{pins:List (Addr×Obj)}{σ:List (Option V)}{H H':Hp}{s:Shared}{h':Heap}
theorem Cx.Ok.nofr (ok:X.Ok){b:Addr}{o:Obj}(e:X.base.get? b=some o):b∉X.fs:=fun hb=>by
 have:=(ok.funs.mem hb).1;rw [e] at this;cases this
theorem Inv.bs (I:Inv X pins σ H s):∀ b o,X.base.get? b=some o→s.heap.get? b=some o∧H b=none:=fun b o e=>
 ⟨I.base.keep b o (I.ok.bs b o e).1 (I.ok.bs b o e).2 (I.ok.nofr e) (I.ok.noex b o e),I.base.free b o (I.ok.bs b o e).1 (I.ok.bs b o e).2 (I.ok.noex b o e)⟩
theorem Inv.bk (I:Inv X pins σ H s):∀ b o,X.base.get? b=some o→s.heap.get? b=some o:=fun b o e=>(I.bs b o e).1
theorem Inv.mod (I:Inv X pins σ H s):Mod X.K X.mg X.base:=I.ok.mod
theorem Inv.kIn (I:Inv X pins σ H s):X.K.In s.heap:=I.ok.mod.kin.keeps I.bk
theorem Inv.fr (I:Inv X pins σ H s):∃ m,Fr X.base X.env.locals s.heap m:=
 let ⟨m,hn,_⟩:=I.loc
 ⟨m,hn,I.bk,Nat.le_trans I.ok.bsz I.ok.above⟩
theorem Inv.lt (I:Inv X pins σ H s):X.env.locals<s.heap.objs.size:=let ⟨_,hn,_⟩:=I.loc;hn.lt
theorem Inv.sz (I:Inv X pins σ H s):X.s_0.heap.objs.size≤s.heap.objs.size:=Nat.le_trans I.ok.above (Nat.le_of_lt I.lt)
theorem Inv.nofs (I:Inv X pins σ H s){a:Addr}(h:s.heap.objs.size≤a):a∉X.fs:=fun hb=>by
 obtain ⟨_,o,ho,_⟩:=I.ok.funs.mem hb;exact absurd (Nat.lt_of_lt_of_le (Heap.lt_size ho) (Nat.le_trans I.sz h)) (Nat.lt_irrefl _)
theorem Inv.cne (I:Inv X pins σ H s):∀ x c,X.env.cells.lookup x=some c→c≠X.env.locals:=fun x c e z=>by
 obtain ⟨v,o,ho,hd⟩:=I.cell x c e;obtain ⟨m,⟨o',es,ep,ho',hd',_⟩,_⟩:=I.loc;rw [z,ho'] at ho;cases ho;rw [hd'] at hd;cases hd
theorem Inv.funs (I:Inv X pins σ H s):s.heap.FunFrames X.base X.outer:=by
 have all:∀ (l:List Env),(∀ b∈frs l,b∈X.fs)→X.s_0.heap.FunFrames X.base l→s.heap.FunFrames X.base l:=by
  intro l;induction l with
  | nil=>intro _ _;trivial
  | cons env r ih=>
   intro hs hl;obtain ⟨hk,⟨L,o,hf,hn,ho,hd⟩,hr⟩:=hl;have hL:L∈X.fs:=hs L (by unfold frs;rw [List.filterMap_cons,hf];exact List.mem_cons_self)
   obtain ⟨sl,e⟩:=I.base.slot L o ho (I.ok.frf L hL) hL fun z=>I.ok.exfs L z hL;exact ⟨hk,⟨L,_,hf,hn,e,hd⟩,ih (fun b hb=>hs b (by unfold frs;rw [List.filterMap_cons,hf];exact List.mem_cons_of_mem _ hb)) hr⟩
 exact all X.outer (fun _ hb=>hb) I.ok.funs
theorem Inv.stack (I:Inv X pins σ H s):s.heap.FunFrames X.base X.stack:=by
 rcases I.ok.stk with e | ⟨e,hf⟩
 ·rw [e];exact I.funs
 ·rw [e];obtain ⟨m,hn,_⟩:=I.loc;refine .cons (by rw [I.ok.kind];decide) hf hn ?_ I.funs
  exact Heap.get?_none_of_le (Nat.le_trans I.ok.bsz I.ok.above)
theorem Inv.stkSub (I:Inv X pins σ H s):∀ b∈frs X.stack,b∈X.env.locals::X.fs:=fun b hb=>by
 rcases I.ok.stk with e | ⟨e,hf⟩
 ·rw [e] at hb;exact List.mem_cons_of_mem _ hb
 ·rw [e] at hb;unfold frs at hb;rw [List.filterMap_cons,hf] at hb;exact hb
theorem Inv.stkFree (I:Inv X pins σ H s):∀ b∈frs X.stack,H b=none:=fun b hb=>by
 rcases List.mem_cons.mp (I.stkSub b hb) with e | hb
 ·rw [e];exact I.free
 ·obtain ⟨_,o,ho,_⟩:=I.ok.funs.mem hb;exact I.base.free b o ho (I.ok.frf b hb) fun z=>I.ok.exfs b z hb
theorem Inv.step {g':Array GenState}{t':Nat}{d':Drawn}{ch:List Addr}(I:Inv X pins σ H s)(hch:∀ b∈ch,(b∈X.ex∨X.s_0.heap.objs.size≤b)∧b≠X.env.locals∧(∀ x c,X.env.cells.lookup x=some c→c≠b)∧∀ p∈X.pn++pins,p.1≠b)(keep:∀ b o,b≠X.env.locals→b∉X.fs→b∉ch→s.heap.get? b=some o→H b=none→h'.get? b=some o)(slot:∀ b o,b≠X.env.locals→b∈X.fs→b∉ch→s.heap.get? b=some o→H b=none→∃ sl,h'.get? b=some {o with slots:=sl})(free:∀ b o,b∉ch→s.heap.get? b=some o→H b=none→H' b=none)(there:∀ b o,b∉ch→s.heap.get? b=some o→∃ o',h'.get? b=some o')(tups:∀ b xs,H b=some (.tup xs)→H' b=some (.tup xs))(frzs:∀ b o u,H b=some (.frz o u)→H' b=some (.frz o u))(tbls:∀ b ps,H b=some (.tbl ps)→∃ more,H' b=some (.tbl (ps++more)))(ns:∀ m,s.heap.Ns X.env.locals m→h'.Ns X.env.locals m)(hok:HOk X.prog X.w H' h')(hg:AllBare g'):
  Inv X pins σ H' {s with heap:=h',gens:=g',drawn:=d',toks:=t'}:=by
 have neL:∀ b o,X.s_0.heap.get? b=some o→b≠X.env.locals:=fun b o e=>Nat.ne_of_lt (Nat.lt_of_lt_of_le (Heap.lt_size e) I.ok.above);have neC:∀ b o,X.s_0.heap.get? b=some o→b∉X.ex→b∉ch:=fun b o e hx hb=>by
  rcases (hch b hb).1 with z | z
  ·exact hx z
  ·exact absurd (Nat.lt_of_lt_of_le (Heap.lt_size e) z) (Nat.lt_irrefl _)
 have cellK:∀ x c,X.env.cells.lookup x=some c→∀ v,s.heap.IsCell c v→h'.IsCell c v:=fun x c e v ⟨o,ho,hd⟩=>by
  have nch:c∉ch:=fun z=>(hch c z).2.2.1 x c e rfl;by_cases hc:c∈X.fs
  ·obtain ⟨sl,q⟩:=slot c o (I.cne x c e) hc nch ho (I.freeC x c e);exact ⟨_,q,hd⟩
  ·exact ⟨o,keep c o (I.cne x c e) hc nch ho (I.freeC x c e),hd⟩
 refine ⟨I.ok,I.os,hg,⟨fun b o e n hb hx=>?_,fun b o e n hb hx=>?_,fun b o e n hx=>?_,fun b o e hx=>?_,fun b xs e=>tups b xs (I.base.tups b xs e),fun b o xs e=>frzs b o xs (I.base.frzs b o xs e),fun b ps e=>?_⟩,?_,fun x c e=>?_,?_,fun x c e=>?_,fun p hp=>?_,hok,I.len⟩
 ·exact keep b o (neL b o e) hb (neC b o e hx) (I.base.keep b o e n hb hx) (I.base.free b o e n hx)
 ·obtain ⟨sl,e1⟩:=I.base.slot b o e n hb hx;obtain ⟨sl',e2⟩:=slot b _ (neL b o e) hb (neC b o e hx) e1 (I.base.free b o e n hx);exact ⟨sl',e2⟩
 ·obtain ⟨o',e1⟩:=I.base.there b o e hx;exact free b o' (neC b o e hx) e1 (I.base.free b o e n hx)
 ·obtain ⟨o',e1⟩:=I.base.there b o e hx;exact there b o' (neC b o e hx) e1
 ·obtain ⟨m1,e1⟩:=I.base.tbls b ps e;obtain ⟨m2,e2⟩:=tbls b _ e1;exact ⟨m1++m2,by rw [e2,Array.append_assoc]⟩
 ·obtain ⟨m,hn,hl⟩:=I.loc;refine ⟨m,ns m hn,fun i x v e1 e2 e3=>?_⟩;obtain ⟨u,r,l⟩:=hl i x v e1 e2 e3;refine ⟨u,r,?_⟩;rcases l with l | ⟨k,c,e,z⟩
  ·exact .inl l
  ·exact .inr ⟨k,c,e,cellK x c e _ z⟩
 ·obtain ⟨v,z⟩:=I.cell x c e;exact ⟨v,cellK x c e v z⟩
 ·obtain ⟨m,⟨o,_,_,ho,_⟩,_⟩:=I.loc;exact free _ o (fun z=>(hch _ z).2.1 rfl) ho I.free
 ·obtain ⟨v,o,ho,hd⟩:=I.cell x c e;exact free c o (fun z=>(hch c z).2.2.1 x c e rfl) ho (I.freeC x c e)
 ·obtain ⟨e,n,ne,nf,d⟩:=I.pin p hp;have nch:p.1∉ch:=fun z=>(hch p.1 z).2.2.2 p hp rfl;exact ⟨keep p.1 p.2 ne nf nch e n,free p.1 p.2 nch e n,ne,nf,d⟩
theorem Inv.un {t':Nat}(I:Inv X pins σ H s)(u:Un X.fs [] H H' s.heap h')(hok:HOk X.prog X.w H' h'):Inv X pins σ H' {s with heap:=h',toks:=t'}:=by
 obtain ⟨m,⟨o,es,ep,ho,r⟩,_⟩:=id I.loc;obtain ⟨sl,hL⟩:=u.any ho I.free (by simp)
 exact I.step (g':=s.gens) (d':=s.drawn) (ch:=[]) (fun _ z=>nomatch z) (fun b o _ hb _ e n=>u.keep b o e n hb (by simp)) (fun b o _ hb _ e n=>u.slot b o e n hb (by simp)) (fun b o _ e n=>u.free b o e n (by simp)) (fun b o _ e=>u.there b o e (by simp)) u.tups u.frzs u.tbls (fun m' hm=>by
  obtain ⟨o',es',ep',ho',r'⟩:=hm;rw [ho] at ho';cases ho';exact ⟨_,es',ep',hL,r'⟩) hok I.bare
theorem Inv.call {g':Array GenState}{t':Nat}{d':Drawn}{ch:List Addr}(I:Inv X pins σ H s)(u:Un (frs X.stack) ch H H' s.heap h')(hok:HOk X.prog X.w H' h')(hg:AllBare g')(hch:∀ b∈ch,(b∈X.ex∨X.s_0.heap.objs.size≤b)∧b≠X.env.locals∧(∀ x c,X.env.cells.lookup x=some c→c≠b)∧∀ p∈X.pn++pins,p.1≠b):
  Inv X pins σ H' {s with heap:=h',gens:=g',drawn:=d',toks:=t'}:=by
 obtain ⟨m,⟨o,es,ep,ho,r⟩,_⟩:=id I.loc;obtain ⟨sl,hL⟩:=u.any ho I.free fun z=>(hch _ z).2.1 rfl;exact I.step (ch:=ch) hch (fun b o hL hb hc e n=>u.keep b o e n (fun z=>(List.mem_cons.mp (I.stkSub b z)).elim hL hb) hc) (fun b o _ _ hc e n=>u.any e n hc) (fun b o hc e n=>u.free b o e n hc) (fun b o hc e=>u.there b o e hc) u.tups u.frzs u.tbls (fun m' hm=>by
  obtain ⟨o',es',ep',ho',r'⟩:=hm;rw [ho] at ho';cases ho';exact ⟨_,es',ep',hL,r'⟩) hok hg
theorem Inv.turned {t':Nat}{it:Addr}(I:Inv X pins σ H s)(k:∀ b o,b≠it→s.heap.get? b=some o→h'.get? b=some o)(hn:H it=none)(hL:it≠X.env.locals)(h1:it∈X.ex∨X.s_0.heap.objs.size≤it)(h2:∀ x c,X.env.cells.lookup x=some c→c≠it)(h3:∀ p∈X.pn++pins,p.1≠it):Inv X pins σ H {s with heap:=h',toks:=t'}:=by
 have nit:∀ b u,H b=some u→b≠it:=fun b u e z=>by rw [z,hn] at e;cases e
 refine I.step (g':=s.gens) (d':=s.drawn) (ch:=[it]) (fun b hb=>?_) (fun b o _ _ hc e _=>k b o (fun z=>hc (by simp [z])) e) (fun b o _ _ hc e _=>⟨o.slots,k b o (fun z=>hc (by simp [z])) e⟩) (fun _ _ _ _ n=>n)
  (fun b o hc e=>⟨o,k b o (fun z=>hc (by simp [z])) e⟩) (fun _ _ e=>e) (fun _ _ _ e=>e) (fun b ps e=>⟨#[],by rw [e];simp⟩) (fun m hm=>?_) (fun b u e=>?_) I.bare
 ·have e:b=it:=by simpa using hb
  subst e;exact ⟨h1,hL,h2,h3⟩
 ·obtain ⟨o,es,ep,ho,r⟩:=hm;exact ⟨o,es,ep,k _ o (Ne.symm hL) ho,r⟩
 ·refine (I.hok b u e).stay (fun c v hc q=>k c v ?_ q) (fun _ q=>q) fun _ _ q=>q;rcases hc with z | z
  ·rw [z];exact nit b u e
  ·exact nit c _ z
theorem Inv.tok (I:Inv X pins σ H s)(t:Nat):Inv X pins σ H {s with toks:=t}:=I.un (h':=s.heap) (t':=t) Un.refl I.hok
theorem Inv.kept {t':Nat}(I:Inv X pins σ H s)(k:∀ b u,s.heap.get? b=some u→h'.get? b=some u):Inv X pins σ H {s with heap:=h',toks:=t'}:=I.un (Un.kept k) (I.hok.kept k)
theorem Inv.laid {a:Addr}{o:HO}{t':Nat}(I:Inv X pins σ H s)(k:∀ b u,s.heap.get? b=some u→h'.get? b=some u)(hp:s.heap.objs.size≤a)(new:ObjOk X.prog X.w (upd H a o) h' a o):
  Inv X pins σ (upd H a o) {s with heap:=h',toks:=t'}:=I.un (Un.laid k hp (I.hok.fresh hp)) (I.hok.laid k hp new)
theorem Inv.write {x e:Addr}{o:HO}{t':Nat}(I:Inv X pins σ H s)(mu:Mut (H x))(he:e=x∨H e=some (.own x))(k:∀ b u,b≠e→s.heap.get? b=some u→h'.get? b=some u)(heo:∃ u,h'.get? e=some u)(new:ObjOk X.prog X.w (upd H x o) h' x o):Inv X pins σ (upd H x o) {s with heap:=h',toks:=t'}:=I.un (Un.write mu he k heo) (I.hok.write mu he k heo new)
theorem Inv.weak {σ':List (Option V)}(I:Inv X pins σ H s)(hl:σ'.length=σ.length)(w:∀ (i:Nat) v,σ'[i]? = some (some v)→σ[i]? = some (some v)):Inv X pins σ' H s:=
 ⟨I.ok,I.os,I.bare,I.base,let ⟨m,hn,hl'⟩:=I.loc;⟨m,hn,fun i x v e1 e2 e3=>hl' i x v e1 (w i v e2) e3⟩,I.cell,I.free,I.freeC,I.pin,I.hok,hl.trans I.len⟩
theorem Inv.pins_of {pins':List (Addr×Obj)}(I:Inv X pins σ H s)(h:∀ p∈pins',s.heap.get? p.1=some p.2∧H p.1=none∧p.1≠X.env.locals∧p.1∉X.fs∧∀ v,p.2.data≠.cell v):Inv X pins' σ H s:=
 ⟨I.ok,I.os,I.bare,I.base,I.loc,I.cell,I.free,I.freeC,fun p hp=>(List.mem_append.mp hp).elim (fun z=>I.pin p (List.mem_append_left _ z)) (h p),I.hok,I.len⟩
theorem zo9 {N:List Str}(hN:N.Nodup){i j:Nat}{x:Str}(a:N[i]? = some x)(b:N[j]? = some x):i=j:=by
 obtain ⟨h1,e1⟩:=List.getElem?_eq_some_iff.mp a;obtain ⟨h2,e2⟩:=List.getElem?_eq_some_iff.mp b;exact (List.getElem_inj hN).mp (e1.trans e2.symm)
theorem zqq {M:Model}{A:Around}{E:Value→Shared→Prop}{i:Nat}{x:Str}{v:V}{u:Value}{Q:Unit→Shared→Prop}(I:Inv X pins σ H s)(hN:X.N.Nodup)(hi:X.N[i]? = some x)(hx:Loc X.env.scope x)(r:RelV v u)(h:∀ s',Inv X pins (σ.set i (some v)) H s'→(∃ a,Heap.SameBut a s.heap s'.heap∧(a=X.env.locals∨X.env.cells.lookup x=some a))→Q () s')(hf:X.fn x=true∨X.env.scope.names.lookup x=some .local:=by first | exact .inl rfl | exact .inr rfl | assumption):wpAny M A (storeName X.env x u) Q E s:=by
 obtain ⟨m,hn,hl⟩:=id I.loc;have hcls:(X.env.scope.kind==.class||(X.env.scope.kind==.module&&X.env.locals != X.env.globals))=false:=by rw [I.ok.kind];rfl
 have hiσ:i < σ.length:=by rw [I.len];exact (List.getElem?_eq_some_iff.mp hi).1
 have cne:=I.cne;have tracked:∀ {a:Addr} {h':Heap},(∃ o,s.heap.get? a=some o∧H a=none)→Heap.SameBut a s.heap h'→HOk X.prog X.w H h':=fun {a h'} ha hs b ob e=>by
  obtain ⟨_,_,hfree⟩:=ha;refine (I.hok b ob e).stay (fun c w' hc q=>(hs.2 c ?_).trans q) (fun _ q=>q) fun _ _ q=>q;rintro rfl;rcases hc with rfl | hc
  ·rw [hfree] at e;cases e
  ·rw [hfree] at hc;cases hc
 rcases hx with hk | hk
 ·refine wpAny_storeName_local hk hn (fun h' hn' hs=>?_) hcls;obtain ⟨oL,_,_,hoL,_⟩:=id hn;refine h _ ⟨I.ok,I.os,I.bare,⟨fun b o e n hb hx=>?_,fun b o e n hb hx=>?_,I.base.free,fun b o e hx=>?_,I.base.tups,I.base.frzs,I.base.tbls⟩,⟨_,hn',fun j y v' e1 e2 e3=>?_⟩,fun y c e=>?_,I.free,I.freeC,fun p hp=>?_,tracked ⟨oL,hoL,I.free⟩ hs,by simpa using I.len⟩ ⟨_,hs,.inl rfl⟩
  ·exact (hs.2 b (Nat.ne_of_lt (Nat.lt_of_lt_of_le (Heap.lt_size e) I.ok.above))).trans (I.base.keep b o e n hb hx)
  ·obtain ⟨sl,e1⟩:=I.base.slot b o e n hb hx;exact ⟨sl,(hs.2 b (Nat.ne_of_lt (Nat.lt_of_lt_of_le (Heap.lt_size e) I.ok.above))).trans e1⟩
  ·obtain ⟨o',e1⟩:=I.base.there b o e hx;exact ⟨o',(hs.2 b (Nat.ne_of_lt (Nat.lt_of_lt_of_le (Heap.lt_size e) I.ok.above))).trans e1⟩
  ·by_cases hj:j=i
   ·subst hj;rw [hi] at e1;cases e1;rw [List.getElem?_set_self hiσ] at e2;cases e2;exact ⟨u,r,.inl ⟨hk,by simp⟩⟩
   ·rw [List.getElem?_set_ne (Ne.symm hj)] at e2;obtain ⟨u',r',q⟩:=hl j y v' e1 e2 e3;refine ⟨u',r',?_⟩;rcases q with ⟨k,e⟩ | ⟨k,c,e,z⟩
    ·refine .inl ⟨k,?_⟩;have:y≠x:=fun e=>hj (zo9 hN e1 (e▸hi));simp [this,e]
    ·exact .inr ⟨k,c,e,z.sameBut hs (cne y c e)⟩
  ·obtain ⟨w',z⟩:=I.cell y c e;exact ⟨w',z.sameBut hs (cne y c e)⟩
  ·obtain ⟨e,n,ne,nf,d⟩:=I.pin p hp;exact ⟨(hs.2 p.1 ne).trans e,n,ne,nf,d⟩
 ·have hfn:X.fn x=true:=by
   rcases hf with z | z
   ·exact z
   ·rw [z] at hk;cases hk
  obtain ⟨c,hc⟩:=I.ok.has x (.inl hk);obtain ⟨w',z⟩:=I.cell x c hc;refine wpAny_storeName_cell I.ok.kind hk hc z (fun h' hc' hs=>?_);obtain ⟨oc,hoc,hocd⟩:=id z;refine h {s with heap:=h'} ⟨I.ok,I.os,I.bare,⟨fun b o e n hb hx=>?_,fun b o e n hb hx=>?_,I.base.free,fun b o e hx=>?_,I.base.tups,I.base.frzs,I.base.tbls⟩,⟨m,hn.sameBut hs (Ne.symm (cne x c hc)),fun j y v' e1 e2 e3=>?_⟩,fun y c' e=>?_,I.free,I.freeC,fun p hp=>?_,tracked ⟨oc,hoc,I.freeC x c hc⟩ hs,by simpa using I.len⟩ ⟨c,hs,.inr hc⟩
  ·exact (hs.2 b (Nat.ne_of_lt (Nat.lt_of_lt_of_le (Heap.lt_size e) (I.ok.cab x c hfn hc)))).trans (I.base.keep b o e n hb hx)
  ·obtain ⟨sl,e1⟩:=I.base.slot b o e n hb hx;exact ⟨sl,(hs.2 b (Nat.ne_of_lt (Nat.lt_of_lt_of_le (Heap.lt_size e) (I.ok.cab x c hfn hc)))).trans e1⟩
  ·obtain ⟨o',e1⟩:=I.base.there b o e hx;exact ⟨o',(hs.2 b (Nat.ne_of_lt (Nat.lt_of_lt_of_le (Heap.lt_size e) (I.ok.cab x c hfn hc)))).trans e1⟩
  ·by_cases hj:j=i
   ·subst hj;rw [hi] at e1;cases e1;rw [List.getElem?_set_self hiσ] at e2;cases e2;exact ⟨u,r,.inr ⟨.inl hk,c,hc,hc'⟩⟩
   ·rw [List.getElem?_set_ne (Ne.symm hj)] at e2;obtain ⟨u',r',q⟩:=hl j y v' e1 e2 e3;refine ⟨u',r',?_⟩;rcases q with q | ⟨k,c',e,z'⟩
    ·exact .inl q
    ·refine .inr ⟨k,c',e,z'.sameBut hs ?_⟩;rintro rfl;exact hj (zo9 hN e1 (I.ok.inj _ _ _ e hc▸hi))
  ·by_cases hcc:c'=c
   ·subst hcc;exact ⟨_,hc'⟩
   ·obtain ⟨w2,z2⟩:=I.cell y c' e;exact ⟨w2,z2.sameBut hs hcc⟩
  ·obtain ⟨e,n,ne,nf,d⟩:=I.pin p hp;refine ⟨(hs.2 p.1 ?_).trans e,n,ne,nf,d⟩;intro q;rw [q,hoc] at e;have q':oc=p.2:=Option.some.inj e;exact d w' (by rw [←q'];exact hocd)
theorem zoh {M:Model}{A:Around}{E:Value→Shared→Prop}{i:Nat}{x:Str}{v:V}{u:Value}{Q:Unit→Shared→Prop}(I:Inv X pins σ H s)(hN:X.N.Nodup)(hi:X.N[i]? = some x)(hx:Loc X.env.scope x)(r:RelV v u)(h:∀ s',Inv X pins (σ.set i (some v)) H s'→Q () s')(hf:X.fn x=true∨X.env.scope.names.lookup x=some .local:=by first | exact .inl rfl | exact .inr rfl | assumption):wpAny M A (storeName X.env x u) Q E s:=
 zqq I hN hi hx r (fun s' I' _=>h s' I') hf
theorem Inv.call' {s':Shared}{ch:List Addr}(I:Inv X pins σ H s)(ho:s'.os=s.os)(u:Un (frs X.stack) ch H H' s.heap s'.heap)(hok:HOk X.prog X.w H' s'.heap)(hg:AllBare s'.gens)(hch:∀ b∈ch,(b∈X.ex∨X.s_0.heap.objs.size≤b)∧b≠X.env.locals∧(∀ x c,X.env.cells.lookup x=some c→c≠b)∧∀ p∈X.pn++pins,p.1≠b):Inv X pins σ H' s':=by
 obtain ⟨h',g',d',t',o'⟩:=s';have e:o'=s.os:=ho;subst e;exact I.call (g':=g') (t':=t') (d':=d') u hok hg hch
end
abbrev XK:=Value→Option Addr→Hp→Prop
abbrev St:=List (Option V)
abbrev VK:=V→Hp→Prop
abbrev TE:=St→Hp→VK→Prop
abbrev TT:=St→Hp→(Bool→Hp→Prop)→Prop
abbrev TA:=St→Hp→(List V→Hp→Prop)→Prop
structure Ends where
 nx:St→Hp→Prop
 rt:VK
 bk:St→Hp→Prop:=fun _ _=>False
 ct:St→Hp→Prop:=fun _ _=>False
abbrev TS:=Ends→St→Hp→Prop
def EP (X:Cx)(pins:List (Addr×Obj))(σ:St)(Q:VK)(u:Value)(s':Shared):Prop:=∃ v H',Inv X pins σ H' s'∧RelV v u∧Q v H'
def TP (X:Cx)(pins:List (Addr×Obj))(σ:St)(Q:Bool→Hp→Prop)(b:Bool)(s':Shared):Prop:=∃ H',Inv X pins σ H' s'∧Q b H'
def AP (X:Cx)(pins:List (Addr×Obj))(σ:St)(Q:List V→Hp→Prop)(us:List Value)(s':Shared):Prop:=∃ vs H',Inv X pins σ H' s'∧Vals vs us∧Q vs H'
def SP (X:Cx)(pins:List (Addr×Obj))(D:Ends)(f:Flow)(s':Shared):Prop:=
 match f with
 | .next=>∃ σ' H',Inv X pins σ' H' s'∧D.nx σ' H'
 | .brk=>∃ σ' H',Inv X pins σ' H' s'∧D.bk σ' H'
 | .cont=>∃ σ' H',Inv X pins σ' H' s'∧D.ct σ' H'
 | .ret u=>∃ v σ' H',Inv X pins σ' H' s'∧RelV v u∧D.rt v H'
def PE (X:Cx)(e:Expr)(t:TE):Prop:=
 ∀ (pins:List (Addr×Obj)) (s:Shared) (σ:St) (H:Hp) (Q:VK),Inv X pins σ H s→t σ H Q→wpAny (model X.prog X.w) X.A (eval e X.env) (EP X pins σ Q) X.xe s
def PT (X:Cx)(e:Expr)(t:TT):Prop:=
 ∀ (pins:List (Addr×Obj)) (s:Shared) (σ:St) (H:Hp) (Q:Bool→Hp→Prop),Inv X pins σ H s→t σ H Q→wpAny (model X.prog X.w) X.A (isTrue e X.env (eval e X.env)) (TP X pins σ Q) X.xe s
def PW (X:Cx)(e:Expr)(t:TT):Prop:=
 ∀ (whole:Sem Value) (pins:List (Addr×Obj)) (s:Shared) (σ:St) (H:Hp) (Q:Bool→Hp→Prop),Inv X pins σ H s→t σ H Q→wpAny (model X.prog X.w) X.A (isTrue e X.env whole) (TP X pins σ Q) X.xe s
theorem PW.pt {X:Cx}{e:Expr}{t:TT}(h:PW X e t):PT X e t:=h _
def PA (X:Cx)(es:List Expr)(t:TA):Prop:=
 ∀ (pos:Pos) (pins:List (Addr×Obj)) (s:Shared) (σ:St) (H:Hp) (Q:List V→Hp→Prop),Inv X pins σ H s→t σ H Q→wpAny (model X.prog X.w) X.A (spliced (backTo pos (starEach es X.env))) (AP X pins σ Q) X.xe s
def PS (X:Cx)(st:Stmt)(t:TS):Prop:=
 ∀ (pins:List (Addr×Obj)) (s:Shared) (σ:St) (H:Hp) (D:Ends),Inv X pins σ H s→t D σ H→wpAny (model X.prog X.w) X.A (exec st X.env) (SP X pins D) X.xe s
def PSs (X:Cx)(st:List Stmt)(t:TS):Prop:=
 ∀ (pins:List (Addr×Obj)) (s:Shared) (σ:St) (H:Hp) (D:Ends),Inv X pins σ H s→t D σ H→wpAny (model X.prog X.w) X.A (execs st X.env) (SP X pins D) X.xe s
theorem thn {α:Type}{t:Sem α}{Q Q':α→Shared→Prop}{M:Model}{A:Around}{E:Value→Shared→Prop}{s:Shared}(h:wpAny M A t Q E s)(hQ:∀ a s,Q a s→Q' a s):wpAny M A t Q' E s:=wpAny_mono h hQ fun _ _ x=>x
end L2
namespace L2
open PySem PySem.Spec PyProof.Rows
section
variable {X:Cx}
theorem bin {a b:Expr}{ta tb:TE}(ha:PE X a ta)(hb:PE X b tb){pins:List (Addr×Obj)}{s:Shared}{σ:St}{H:Hp}{R:V→V→Hp→Prop}(I:Inv X pins σ H s)(h:ta σ H fun x H1=>tb σ H1 fun y H2=>R x y H2){α:Type}{Q:α→Shared→Prop}{f:Value→Value→Sem α}(hf:∀ v u s2 x y H2,Inv X pins σ H2 s2→RelV x v→RelV y u→R x y H2→wpAny (model X.prog X.w) X.A (f v u) Q X.xe s2):
  wpAny (model X.prog X.w) X.A (eval a X.env) (fun v s₁=>wpAny (model X.prog X.w) X.A (eval b X.env) (fun u s₂=>wpAny (model X.prog X.w) X.A (f v u) Q X.xe s₂) X.xe s₁) X.xe s:=by
 refine thn (ha pins s σ H _ I h) fun v s1 ⟨x,H1,I1,r1,q1⟩=>?_;refine thn (hb pins s1 σ H1 _ I1 q1) fun u s2 ⟨y,H2,I2,r2,q2⟩=>?_;exact hf v u s2 x y H2 I2 r1 r2 q2
def tVar (i:Nat):TE:=fun σ H Q=>∃ v,σ[i]? = some (some v)∧Q v H
def tC (v:V):TE:=fun _ H Q=>Q v H
theorem pe_var {i:Nat}{x:Str}{pos:Pos}(hN:X.N[i]? = some x)(hv:Vis X.env.scope x)(hd:(x==("__debug__":Str))=false:=by decide)(hcd:(x==("__classdict__":Str))=false:=by decide):PE X (.Name x pos) (tVar i):=by
 intro pins s σ H Q I h;obtain ⟨v,e,h⟩:=h;obtain ⟨m,hn,hl⟩:=I.loc;obtain ⟨u,r,l⟩:=hl i x v hN e hv;have fin:EP X pins σ Q u s:=⟨v,H,I,r,h⟩;rcases l with ⟨hk,hm⟩ | ⟨hk,c,hc,hcell⟩
 ·exact wpAny_Name (wpAny_loadName_local I.ok.kind hk hn hm fin) hd
 ·rcases hk with hk | hk
  ·exact wpAny_Name (wpAny_loadName_cell I.ok.kind hk hc hcell fin) hd
  ·exact wpAny_Name (wpAny_loadName_free I.ok.kind hk hc hcell fin hcd) hd
theorem zan {i j pos}:PE X (.Constant (.int i) j pos) (tC (.int i)):=fun _ _ _ H _ I h=>wpAny_Constant_int ⟨.int i,H,I.tok _,⟨_,rfl⟩,h⟩
theorem zmo {b j pos}:PE X (.Constant (.bool b) j pos) (tC (.bl b)):=fun _ _ _ H _ I h=>Constant_bool ⟨.bl b,H,I,rfl,h⟩
theorem zno {j pos}:PE X (.Constant .none j pos) (tC .non):=fun _ _ _ H _ I h=>Constant_none ⟨.non,H,I,rfl,h⟩
theorem zaw {x j pos}:PE X (.Constant (.str x) j pos) (tC (.str x)):=fun _ _ _ H _ I h=>Calls.Constant_str ⟨.str x,H,I.tok _,⟨_,rfl⟩,h⟩
def Gl (X:Cx)(x:Str):Prop:=X.env.kindOf x=some .globalImplicit
theorem zlz {E:Value→Shared→Prop}{pins:List (Addr×Obj)}{s:Shared}{σ:St}{H:Hp}{x:Str}{u:Value}{pos:Pos}{Q:Value→Shared→Prop}(I:Inv X pins σ H s)(hg:Gl X x)(hm:X.mg x=some u)(h:Q u s)(hd:(x==("__debug__":Str))=false:=by decide):wpAny (model X.prog X.w) X.A (eval (.Name x pos) X.env) Q E s:=
 Calls.Name_function_global I.ok.kind hg (Calls.loadGlobal_global (by rw [I.ok.glob];exact I.mod.glob.keeps I.bk) hm h) hd
theorem zj6 {E:Value→Shared→Prop}{pins:List (Addr×Obj)}{s:Shared}{σ:St}{H:Hp}{x:Str}{u:Value}{pos:Pos}{Q:Value→Shared→Prop}(I:Inv X pins σ H s)(hg:Gl X x)(hm:X.mg x=none)(hv:bootBuiltins x=some u)(h:Q u s)(hn:x≠"__name__":=by decide)(hd:(x==("__debug__":Str))=false:=by decide):wpAny (model X.prog X.w) X.A (eval (.Name x pos) X.env) Q E s:=by
 obtain ⟨mb,h1,h2⟩:=I.mod.blt;exact Calls.Name_function_global I.ok.kind hg (Calls.loadGlobal_builtin (by rw [I.ok.glob];exact I.mod.glob.keeps I.bk) hm (by rw [I.ok.blt];exact h1.keeps I.bk) ((h2 x hn).trans hv) h) hd
theorem zov {x:Str}{v:V}{u:Value}{pos:Pos}(hg:Gl X x)(hm:X.mg x=some u)(r:RelV v u)(hd:(x==("__debug__":Str))=false:=by decide):PE X (.Name x pos) (tC v):=
 fun _ _ _ H _ I h=>zlz I hg hm ⟨v,H,I,r,h⟩ hd
variable {a b:Expr}{ta tb:TE}{pos:Pos}
def PC (X:Cx)(op:CmpOp)(a b:Expr)(t:TE):Prop:=
 ∀ (pins:List (Addr×Obj)) (s:Shared) (σ:St) (H:Hp) (Q:VK),Inv X pins σ H s→t σ H Q→
  wpAny (model X.prog X.w) X.A (eval a X.env) (fun v s₁=>wpAny (model X.prog X.w) X.A (eval b X.env) (fun u s₂=>wpAny (model X.prog X.w) X.A (compareOp op v u) (EP X pins σ Q) X.xe s₂) X.xe s₁) X.xe s
theorem nobehind (b:Expr){op:CmpOp}(h:op≠.In)(h2:op≠.NotIn):behindInMarks op b=false:=by
 have e1:(op==CmpOp.In)=false:=by cases op <;> first | rfl | exact absurd rfl h
 have e2:(op==CmpOp.NotIn)=false:=by cases op <;> first | rfl | exact absurd rfl h2
 cases b <;> simp [behindInMarks,e1,e2]
def tB (t:TE):TT:=fun σ H Q=>t σ H fun x H1=>∃ c,x=.bl c∧Q c H1
theorem zu2 {op:CmpOp}{t:TE}(h:PC X op a b t)(h1:behindInMarks op b=false:=by first | exact nobehind _ (by decide) (by decide) | rfl):PE X (.Compare a [op] [b] pos) t:=fun pins s σ H Q I hw=>wpAny_Compare1 (h pins s σ H Q I hw) h1
theorem pt_cmp {op:CmpOp}{t:TE}(h:PC X op a b t)(h1:behindInMarks op b=false:=by first | exact nobehind _ (by decide) (by decide) | rfl):PT X (.Compare a [op] [b] pos) (tB t):=by
 intro pins s σ H Q I hw;refine wpAny_isTrue_Compare1 (thn (h pins s σ H _ I hw) fun v s1 h1=>thn h1 fun u s2 h2=>thn h2 fun c s3 ⟨x,H1,I1,r1,q1⟩=>?_) h1;obtain ⟨d,rfl,q⟩:=q1;cases r1;exact wpAny_truthy_bool ⟨H1,I1,q⟩
theorem zev {e:Expr}{t:TE}(h:PE X e t)(he:∀ whole,isTrue e X.env whole=(do let v←whole;standAt e.pos;holding [v] (truthy v)):=by intro _;rfl):PT X e (tB t):=by
 intro pins s σ H Q I hw;refine isTrue_plain (thn (h pins s σ H _ I hw) fun v s1 ⟨x,H1,I1,r1,q1⟩=>?_) (he _);obtain ⟨d,rfl,q⟩:=q1;cases r1;exact wpAny_truthy_bool ⟨H1,I1,q⟩
variable {tA tB':TT}{rest:List Expr}
def tAnd (t u:TT):TT:=fun σ H Q=>t σ H fun c H1=>if c=true then u σ H1 Q else Q false H1
def tOr (t u:TT):TT:=fun σ H Q=>t σ H fun c H1=>if c=true then Q true H1 else u σ H1 Q
def tNot (t:TT):TT:=fun σ H Q=>t σ H fun c H1=>Q (!c) H1
theorem pw_and1 (ha:PT X a tA):PW X (.BoolOp .And [a] pos) tA:=by
 intro wh pins s σ H Q I h;refine isTrue_and (thn (ha pins s σ H Q I h) fun c s1 e=>?_);cases c with
 | true=>exact isTrue_and_nil e
 | false=>exact e
theorem zq6 (ha:PT X a tA):PW X (.BoolOp .Or [a] pos) tA:=by
 intro wh pins s σ H Q I h;refine isTrue_or (thn (ha pins s σ H Q I h) fun c s1 e=>?_);cases c with
 | false=>exact isTrue_or_nil e
 | true=>exact e
theorem pw_and (ha:PT X a tA)(hb:PW X (.BoolOp .And (b::rest) pos) tB'):PW X (.BoolOp .And (a::b::rest) pos) (tAnd tA tB'):=by
 intro wh pins s σ H Q I h;refine isTrue_and (thn (ha pins s σ H _ I h) fun c s1 ⟨H1,I1,q1⟩=>?_);cases c with
 | true=>exact hb wh pins s1 σ H1 Q I1 q1
 | false=>exact ⟨H1,I1,q1⟩
theorem zv7 (ha:PT X a tA)(hb:PW X (.BoolOp .Or (b::rest) pos) tB'):PW X (.BoolOp .Or (a::b::rest) pos) (tOr tA tB'):=by
 intro wh pins s σ H Q I h;refine isTrue_or (thn (ha pins s σ H _ I h) fun c s1 ⟨H1,I1,q1⟩=>?_);cases c with
 | true=>exact ⟨H1,I1,q1⟩
 | false=>exact hb wh pins s1 σ H1 Q I1 q1
theorem zq7 (ha:PT X a tA):PT X (.UnaryOp .Not a pos) (tNot tA):=by
 intro pins s σ H Q I h;exact isTrue_not (ha pins s σ H (fun c H1=>Q (!c) H1) I h)
def tAndV (ta tb:TE):TE:=fun σ H Q=>ta σ H fun x H1=>∃ c,x=.bl c∧if c=true then tb σ H1 Q else Q (.bl false) H1
def tOrV (ta tb:TE):TE:=fun σ H Q=>ta σ H fun x H1=>∃ c,x=.bl c∧if c=true then Q (.bl true) H1 else tb σ H1 Q
def tNotV (ta:TE):TE:=fun σ H Q=>ta σ H fun x H1=>∃ c,x=.bl c∧Q (.bl (!c)) H1
theorem pe_one {op}{t:TE}(h:PE X a t):PE X (.BoolOp op [a] pos) t:=fun pins s σ H Q I hw=>BoolOp_one (h pins s σ H Q I hw)
theorem pe_and (ha:PE X a ta)(hb:PE X (.BoolOp .And (b::rest) pos) tb):PE X (.BoolOp .And (a::b::rest) pos) (tAndV ta tb):=by
 intro pins s σ H Q I h;refine BoolOp_and (thn (ha pins s σ H _ I h) fun v s1 ⟨x,H1,I1,r1,q1⟩=>?_);obtain ⟨c,rfl,q1⟩:=q1;cases r1;refine wpAny_truthy_bool ?_;cases c with
 | true=>exact hb pins s1 σ H1 Q I1 q1
 | false=>exact ⟨.bl false,H1,I1,rfl,q1⟩
def tIf (t:TT)(ta tb:TE):TE:=fun σ H Q=>t σ H fun c H1=>if c=true then ta σ H1 Q else tb σ H1 Q
theorem zcj {c:Expr}(hc:PT X c tA)(ha:PE X a ta)(hb:PE X b tb):PE X (.IfExp c a b pos) (tIf tA ta tb):=by
 intro pins s σ H Q I h;refine wpAny_IfExp (thn (hc pins s σ H _ I h) fun d s1 ⟨H1,I1,q1⟩=>?_);cases d with
 | true=>exact ha pins s1 σ H1 Q I1 q1
 | false=>exact hb pins s1 σ H1 Q I1 q1
end
end L2
namespace L2
open PySem PySem.Spec PyProof.Rows
def SqL (K:PySem.W.Frag)(H:Hp)(a:Addr)(xs:List V):Prop:=
 Rd H a (.lst xs) ∨
  ∃ (o:Obj) (its:Array Value) (n:Nat),K.lookup a=some o∧o.cls=.type "list"∧o.dict=none∧o.data=.seq its n∧its.size≤sizeLine∧Vals xs its.toList
def SqT (K:PySem.W.Frag)(H:Hp)(a:Addr)(xs:List V):Prop:=
 Rd H a (.tup xs) ∨
  ∃ (o:Obj) (its:Array Value) (n:Nat),K.lookup a=some o∧o.cls=.type "tuple"∧o.data=.seq its n∧its.size≤sizeLine∧Vals xs its.toList
def absV:Value→Option V
 | .none=>some .non
 | .bool b=>some (.bl b)
 | .int i _=>some (.int i)
 | .str x _=>some (.str x)
 | .bytes b _=>some (.byt b)
 | .float b _=>some (.flt b)
 | .ref a=>some (.ref a)
 | .type n=>some (.ty n)
 | _=>none
theorem RelV.abs {x:V}{u:Value}(r:RelV x u):absV u=some x:=by
 cases x with
 | non=>cases r;rfl
 | bl _=>cases r;rfl
 | int _=>obtain ⟨t,rfl⟩:=r;rfl
 | str _=>obtain ⟨t,rfl⟩:=r;rfl
 | byt _=>obtain ⟨t,rfl⟩:=r;rfl
 | flt _=>obtain ⟨t,rfl⟩:=r;rfl
 | ref _=>cases r;rfl
 | ty _=>cases r;rfl
theorem RelV.inj {x y:V}{u:Value}(r:RelV x u)(q:RelV y u):x=y:=Option.some.inj (r.abs.symm.trans q.abs)
theorem Vals.inj:∀ {xs ys:List V} {us:List Value},Vals xs us→Vals ys us→xs=ys
 | _,_,_,.nil,.nil=>rfl
 | _,_,_,.cons r t,.cons r' t'=>by rw [r.inj r',Vals.inj t t']
section
variable {X:Cx}{pins:List (Addr×Obj)}{σ:St}{H:Hp}{s:Shared}{a:Addr}{xs ys:List V}
theorem SqL.of {K:PySem.W.Frag}(h:H a=some (.lst xs)):SqL K H a xs:=.inl (.inl h)
theorem SqT.of {K:PySem.W.Frag}(h:H a=some (.tup xs)):SqT K H a xs:=.inl (.inl h)
theorem Inv.list (I:Inv X pins σ H s)(h:SqL X.K H a xs):∃ its:List Value,Vals xs its∧PlainL s.heap a its.toArray∧xs.length≤sizeLine:=by
 rcases h with h | ⟨o,its,n,hk,hc,hd,hs,hz,r⟩
 ·obtain ⟨z,its,n,r,e⟩:=h.ok I.hok;exact ⟨its,r,⟨_,n,e,rfl,rfl,rfl⟩,z⟩
 ·refine ⟨its.toList,r,⟨o,n,I.kIn a o hk,hc,hd,by simpa using hs⟩,?_⟩
  have e:=r.length;simp only [Array.length_toList] at e;omega
theorem Inv.tuple (I:Inv X pins σ H s)(h:SqT X.K H a xs):∃ its:List Value,Vals xs its∧IsTup s.heap a its.toArray∧xs.length≤sizeLine:=by
 rcases h with h | ⟨o,its,n,hk,hc,hs,hz,r⟩
 ·obtain ⟨z,its,r,p⟩:=h.ok I.hok;exact ⟨its,r,p,z⟩
 ·refine ⟨its.toList,r,⟨o,I.kIn a o hk,hc,n,by simpa using hs⟩,?_⟩
  have e:=r.length;simp only [Array.length_toList] at e;omega
theorem Inv.zu8 (I:Inv X pins σ H s)(h:SqL X.K H a xs)(h':SqL X.K H a ys):xs=ys:=by
 obtain ⟨its,r,⟨o,n,e,_,_,d⟩,_⟩:=I.list h;obtain ⟨its',r',⟨o',n',e',_,_,d'⟩,_⟩:=I.list h';rw [e] at e';cases e';rw [d] at d';injection d' with d1 _;have:its=its':=by simpa using congrArg Array.toList d1
 subst this;exact r.inj r'
end
abbrev Cx.wish (X:Cx)(E:Value→Shared→Prop):Cx:={X with xe:=E}
abbrev Cx.nox (X:Cx):Cx:=X.wish fun _ _=>False
theorem Cx.Ok.wish {X:Cx}(ok:X.Ok)(E:Value→Shared→Prop):(X.wish E).Ok:=
 ⟨ok.mod,ok.kind,ok.glob,ok.blt,ok.above,ok.inj,ok.has,ok.cab,ok.hd,ok.frames,ok.stk,ok.exf,ok.bs,ok.bsz,ok.noex,ok.exfs,ok.funs,ok.frf⟩
theorem Cx.Ok.unwish {X:Cx}{E:Value→Shared→Prop}(ok:(X.wish E).Ok):X.Ok:=
 ⟨ok.mod,ok.kind,ok.glob,ok.blt,ok.above,ok.inj,ok.has,ok.cab,ok.hd,ok.frames,ok.stk,ok.exf,ok.bs,ok.bsz,ok.noex,ok.exfs,ok.funs,ok.frf⟩
section
variable {X:Cx}{pins:List (Addr×Obj)}{σ:St}{H:Hp}{s:Shared}{E:Value→Shared→Prop}
theorem Inv.wish (I:Inv X pins σ H s)(E:Value→Shared→Prop):Inv (X.wish E) pins σ H s:=⟨I.ok.wish E,I.os,I.bare,I.base,I.loc,I.cell,I.free,I.freeC,I.pin,I.hok,I.len⟩
theorem Inv.unwish (I:Inv (X.wish E) pins σ H s):Inv X pins σ H s:=⟨I.ok.unwish,I.os,I.bare,I.base,I.loc,I.cell,I.free,I.freeC,I.pin,I.hok,I.len⟩
theorem SP.unwish {D:Ends}{f:Flow}{s':Shared}(h:SP (X.wish E) pins D f s'):SP X pins D f s':=by
 cases f with
 | next=>obtain ⟨σ',H',I,q⟩:=h;exact ⟨σ',H',I.unwish,q⟩
 | brk=>obtain ⟨σ',H',I,q⟩:=h;exact ⟨σ',H',I.unwish,q⟩
 | cont=>obtain ⟨σ',H',I,q⟩:=h;exact ⟨σ',H',I.unwish,q⟩
 | ret u=>obtain ⟨v,σ',H',I,r,q⟩:=h;exact ⟨v,σ',H',I.unwish,r,q⟩
theorem PSs.nox {st:List Stmt}{t:TS}(h:PSs X.nox st t):PSs X st t:=fun pins s σ H D I hw=>
 wpAny_mono (h pins s σ H D (I.wish _) hw) (fun _ _ q=>q.unwish) fun _ _ z=>False.elim z
end
section
variable {X:Cx}{st:Stmt}{rest:List Stmt}{t u:TS}{e:Expr}{te:TE}{pos:Pos}
def tNext:TS:=fun D σ H=>D.nx σ H
def tSeq (t u:TS):TS:=fun D σ H=>t {D with nx:=u D} σ H
theorem zam:PSs X [] tNext:=fun _ _ σ H _ I h=>wpAny_execs_nil ⟨σ,H,I,h⟩
theorem zad (h1:PS X st t)(h2:PSs X rest u):PSs X (st::rest) (tSeq t u):=by
 intro pins s σ H D I h;refine wpAny_execs_cons (thn (h1 pins s σ H {D with nx:=u D} I h) fun f s1 q=>?_);cases f with
 | next=>
  obtain ⟨σ',H',I',q⟩:=q;exact h2 pins s1 σ' H' D I' q
 | ret v=>exact q
 | brk=>exact q
 | cont=>exact q
theorem zae (h1:PS X st t):PSs X [st] t:=by
 intro pins s σ H D I h;refine wpAny_execs_cons (thn (h1 pins s σ H D I h) fun f s1 q=>?_);cases f with
 | next=>exact wpAny_execs_nil q
 | ret v=>exact q
 | brk=>exact q
 | cont=>exact q
theorem Inv.quiet {pins:List (Addr×Obj)}{σ:St}{H:Hp}{s:Shared}(I:Inv X pins σ H s):interactive X.env=false:=by simp [interactive,I.ok.kind]
def tDrop (te:TE):TS:=fun D σ H=>te σ H fun _ H1=>D.nx σ H1
theorem zcr (he:PE X e te)(hs:swapsWith e none pos.line X.env=pure false:=by rfl):PS X (.Expr e pos) (tDrop te):=by
 intro pins s σ H D I h;exact wpAny_Expr_any (thn (he pins s σ H _ I h) fun v s1 ⟨x,H1,I1,r1,q1⟩=>⟨σ,H1,I1,q1⟩) I.quiet hs
def tRet (te:TE):TS:=fun D σ H=>te σ H D.rt
theorem zak (he:PE X e te):PS X (.Return (some e) pos) (tRet te):=by
 intro pins s σ H D I h;exact wpAny_Return_some (thn (he pins s σ H _ I h) fun v s1 ⟨x,H1,I1,r1,q1⟩=>⟨x,σ,H1,I1,r1,q1⟩)
def tRetN:TS:=fun D _ H=>D.rt .non H
def tIfS (c:TT)(t u:TS):TS:=fun D σ H=>c σ H fun b H1=>if b=true then t D σ H1 else u D σ H1
theorem zav {c:Expr}{a b:List Stmt}{tc:TT}(hc:PT X c tc)(ha:PSs X a t)(hb:PSs X b u):PS X (.If c a b pos) (tIfS tc t u):=by
 intro pins s σ H D I h;refine wpAny_If (thn (hc pins s σ H _ I h) fun d s1 ⟨H1,I1,q1⟩=>?_);cases d with
 | true=>exact ha pins s1 σ H1 D I1 q1
 | false=>exact hb pins s1 σ H1 D I1 q1
def tNever:TS:=fun _ _ _=>False
theorem ps_never:PS X st tNever:=fun _ _ _ _ _ _ h=>h.elim
end
abbrev TG:=V→St→Hp→(St→Hp→Prop)→Prop
abbrev TGs:=List V→St→Hp→(St→Hp→Prop)→Prop
def PG (X:Cx)(target:Expr)(t:TG):Prop:=
 ∀ (pins:List (Addr×Obj)) (s:Shared) (σ:St) (H:Hp) (v:V) (u:Value) (Q:St→Hp→Prop),Inv X pins σ H s→RelV v u→t v σ H Q→
  wpAny (model X.prog X.w) X.A (assign target X.env u) (fun _ s'=>∃ σ' H',Inv X pins σ' H' s'∧Q σ' H') X.xe s
def PGs (X:Cx)(ts:List Expr)(t:TGs):Prop:=
 ∀ (pins:List (Addr×Obj)) (s:Shared) (σ:St) (H:Hp) (vs:List V) (us:List Value) (Q:St→Hp→Prop),Inv X pins σ H s→Vals vs us→t vs σ H Q→
  wpAny (model X.prog X.w) X.A (assignInOrder ((assignEach ts X.env).map (·.2)) us) (fun _ s'=>∃ σ' H',Inv X pins σ' H' s'∧Q σ' H') X.xe s
abbrev TIp:=V→V→Hp→VK→Prop
def PIp (X:Cx)(op:Operator)(t:TIp):Prop:=
 ∀ (pins:List (Addr×Obj)) (s:Shared) (σ:St) (H:Hp) (x y:V) (v u:Value) (Q:VK),Inv X pins σ H s→RelV x v→RelV y u→t x y H Q→
  wpAny (model X.prog X.w) X.A (inplaceOp op v u) (EP X pins σ Q) X.xe s
section
variable {X:Cx}{pos:Pos}
def gName (i:Nat):TG:=fun v σ H Q=>Q (σ.set i (some v)) H
theorem zbj {i:Nat}{x:Str}(hN:X.N.Nodup)(hi:X.N[i]? = some x)(hx:Loc X.env.scope x)(hf:X.fn x=true∨X.env.scope.names.lookup x=some .local:=by first | exact .inl rfl | exact .inr rfl | assumption):PG X (.Name x pos) (gName i):=by
 intro pins s σ H v u Q I r h;exact wpAny_assign_Name (zoh I hN hi hx r (fun s' I'=>⟨_,H,I',h⟩) hf)
def gNil:TGs:=fun vs σ H Q=>vs=[]∧Q σ H
def gCons (t:TG)(u:TGs):TGs:=fun vs σ H Q=>∃ v r,vs=v::r∧t v σ H fun σ' H'=>u r σ' H' Q
theorem zlp:PGs X [] gNil:=by
 intro pins s σ H vs us Q I r h;obtain ⟨e,h⟩:=h;subst e;cases r;exact assignInOrder_nil ⟨σ,H,I,h⟩
theorem zdm {e:Expr}{es:List Expr}{t:TG}{u:TGs}(h1:PG X e t)(h2:PGs X es u)(hs:(assignEach (e::es) X.env).map (·.2)=assign e X.env::(assignEach es X.env).map (·.2):=by rfl):PGs X (e::es) (gCons t u):=by
 intro pins s σ H vs us Q I r h;obtain ⟨v,vr,e1,h⟩:=h;subst e1;cases r with
 | cons r rr=>
  rw [hs];refine assignInOrder_cons (thn (h1 pins s σ H _ _ _ I r h) fun _ s1 ⟨σ1,H1,I1,q1⟩=>?_);exact h2 pins s1 σ1 H1 _ _ Q I1 rr q1
def gTup (K:PySem.W.Frag)(n:Nat)(t:TGs):TG:=fun v σ H Q=>∃ a xs,v=.ref a∧SqT K H a xs∧xs.length=n∧t xs σ H Q
theorem zra {es:List Expr}{k:Nat}{t:TGs}{n:Nat}(hc:X.calm=true)(h:PGs X es t)(hn:(assignEach es X.env).length=n:=by rfl)(hst:(assignEach es X.env).findIdx? (·.1)=none:=by rfl):PG X (.Tuple es k pos) (gTup X.K n t):=by
 intro pins s σ H v u Q I r hw;obtain ⟨a,xs,e1,hq,hl,hw⟩:=hw;subst e1;cases r;obtain ⟨its,rv,ht,hz⟩:=I.tuple hq;refine assign_Tuple_tuple (I.ok.hd hc) ht (by simp [hn,←hl,rv.length]) hst fun h' hx=>?_
 have I1:Inv X pins σ H {s with heap:=h'}:=I.kept (t':=s.toks) fun b o e=>hx b o (Nat.ne_of_lt (Heap.lt_size e)) e;exact h pins _ σ H xs _ Q I1 (by simpa using rv) hw
def tAsg (te:TE)(g:TG):TS:=fun D σ H=>te σ H fun x H1=>g x σ H1 D.nx
theorem zat {i:Nat}{x:Str}{e:Expr}{te:TE}{pos':Pos}(hN:X.N.Nodup)(hi:X.N[i]? = some x)(hx:Loc X.env.scope x)(he:PE X e te)(hs:swapsWith e (some (.Name x pos')) pos.line X.env=pure false:=by rfl)(hf:X.fn x=true∨X.env.scope.names.lookup x=some .local:=by first | exact .inl rfl | exact .inr rfl | assumption):
  PS X (.Assign [.Name x pos'] e pos) (tAsg te (gName i)):=by
 intro pins s σ H D I h;refine wpAny_Assign_Name (thn (he pins s σ H _ I h) fun v s1 ⟨y,H1,I1,r1,q1⟩=>?_) hs;exact zoh I1 hN hi hx r1 (fun s2 I2=>⟨_,H1,I2,q1⟩) hf
def tAug (i:Nat)(te:TE)(ti:TIp):TS:=fun D σ H=>∃ x,σ[i]? = some (some x)∧te σ H fun y H1=>ti x y H1 fun z H2=>D.nx (σ.set i (some z)) H2
theorem ps_aug {i:Nat}{x:Str}{e:Expr}{te:TE}{op:Operator}{ti:TIp}{pos':Pos}(hN:X.N.Nodup)(hi:X.N[i]? = some x)(hx:Loc X.env.scope x)(he:PE X e te)(ho:PIp X op ti)(hf:X.fn x=true∨X.env.scope.names.lookup x=some .local:=by first | exact .inl rfl | exact .inr rfl | assumption):
  PS X (.AugAssign (.Name x pos') op e pos) (tAug i te ti):=by
 intro pins s σ H D I h;obtain ⟨v,e1,h⟩:=h;obtain ⟨m,hn,hl⟩:=I.loc;have vis:Vis X.env.scope x:=by rcases hx with k | k;exact .inl k;exact .inr (.inl k)
 obtain ⟨u,r,l⟩:=hl i x v hi e1 vis;refine wpAny_AugAssign_Name ?_;have go:wpAny (model X.prog X.w) X.A (eval e X.env) (fun w s₂=>wpAny (model X.prog X.w) X.A (inplaceOp op u w) (fun r s₃=>wpAny (model X.prog X.w) X.A (storeName X.env x r) (fun _=>SP X pins D .next) X.xe s₃) X.xe s₂) X.xe s:=by
  refine thn (he pins s σ H _ I h) fun w s1 ⟨y,H1,I1,r1,q1⟩=>?_;refine thn (ho pins s1 σ H1 v y u w _ I1 r r1 q1) fun z s2 ⟨zv,H2,I2,r2,q2⟩=>?_;exact zoh I2 hN hi hx r2 (fun s3 I3=>⟨_,H2,I3,q2⟩) hf
 rcases l with ⟨hk,hm⟩ | ⟨hk,c,hc,hcell⟩
 ·exact wpAny_loadName_local I.ok.kind hk hn hm go
 ·rcases hk with hk | hk
  ·exact wpAny_loadName_cell I.ok.kind hk hc hcell go
  ·rcases hx with k | k
   ·have:X.env.scope.names.lookup x=some .free:=hk;rw [k] at this;cases this
   ·have:X.env.scope.names.lookup x=some .free:=hk;rw [k] at this;cases this
def ipI (f:Int→Int→Int):TIp:=fun x y H Q=>∃ i j,x=.int i∧y=.int j∧Q (.int (f i j)) H
theorem ip_add:PIp X .Add (ipI fun i j=>i+j):=by
 intro pins s σ H x y v u Q I r1 r2 h;obtain ⟨i,j,e1,e2,q⟩:=h;subst e1;subst e2;obtain ⟨t,rfl⟩:=r1;obtain ⟨t',rfl⟩:=r2;exact iadd_int ⟨.int _,H,I.tok _,⟨_,rfl⟩,q⟩
end
section
variable {X:Cx}{pos:Pos}
def tWhile (c:TT)(tb:TS):TS:=fun D σ H=>∃ W:Nat→St→Hp→Prop,(∃ m,W m σ H)∧∀ m σ H,W m σ H→
 c σ H fun b H1=>if b=true then ∃ N:St→Hp→Prop,(∀ σ' H',N σ' H'→∃ m',m'<m∧W m' σ' H')∧tb {D with nx:=N,ct:=N,bk:=D.nx} σ H1 else D.nx σ H1
theorem zuw {c:Expr}{body:List Stmt}{tc:TT}{tb:TS}(hp:PassesOwn (model X.prog X.w) X.A X.env X.xe)(hc:PT X c tc)(hb:PSs X body tb):PS X (.While c body [] pos) (tWhile tc tb):=by
 intro pins s σ H D I h;obtain ⟨W,⟨m0,w0⟩,turn⟩:=h;refine wpAny_While (codeAny_whileLoop (fun n s'=>∃ σ' H',Inv X pins σ' H' s'∧W n σ' H') ?_ m0 ⟨σ,H,I,w0⟩);rintro n s1 ⟨σ1,H1,I1,w1⟩;refine wpAny_passesOwn hp (thn (hc pins s1 σ1 H1 _ I1 (turn n σ1 H1 w1)) fun b s2 ⟨H2,I2,q2⟩=>?_);cases b with
 | true=>
  obtain ⟨N,hN,q2⟩:=q2;rw [if_pos rfl];refine wpAny_passesOwn hp (thn (hb pins s2 σ1 H2 _ I2 q2) fun f s3 q3=>?_);cases f with
  | next=>
   obtain ⟨σ3,H3,I3,n3⟩:=q3;obtain ⟨m',hm,w3⟩:=hN σ3 H3 n3;exact ⟨m',hm,σ3,H3,I3,w3⟩
  | cont=>
   obtain ⟨σ3,H3,I3,n3⟩:=q3;obtain ⟨m',hm,w3⟩:=hN σ3 H3 n3;exact ⟨m',hm,σ3,H3,I3,w3⟩
  | brk=>exact q3
  | ret v=>exact q3
 | false=>
  rw [if_neg Bool.false_ne_true];exact wpAny_execs_nil ⟨σ1,H2,I2,q2⟩
end
structure It where
 go:Nat→Hp→Prop
 yld:Nat→Hp→V→Hp→Prop
 stop:Nat→Hp→Prop
def FpOk (X:Cx)(pins:List (Addr×Obj))(H:Hp)(b:Addr):Prop:=
 H b=none∧b≠X.env.locals∧b∉X.fs∧(b∈X.ex∨X.s_0.heap.objs.size≤b)∧(∀ x c,X.env.cells.lookup x=some c→c≠b)∧∀ p∈X.pn++pins,p.1≠b
theorem Inv.fpOk {X:Cx}{pins:List (Addr×Obj)}{σ:St}{H H':Hp}{s:Shared}{b:Addr}(I:Inv X pins σ H s)(hb:s.heap.objs.size≤b)(hn:H' b=none):FpOk X pins H' b:=by
 refine ⟨hn,Nat.ne_of_gt (Nat.lt_of_lt_of_le I.lt hb),I.nofs hb,.inr (Nat.le_trans I.sz hb),fun x c e z=>?_,fun p hp z=>?_⟩
 ·obtain ⟨v,q⟩:=I.cell x c e;exact absurd (Nat.lt_of_lt_of_le q.lt (by rw [z];exact hb)) (Nat.lt_irrefl _)
 ·exact absurd (Nat.lt_of_lt_of_le (Heap.lt_size (I.pin p hp).1) (by rw [z];exact hb)) (Nat.lt_irrefl _)
structure Turn (P:Program)(w:World)(K:PySem.W.Frag)(tg:Expr)(J:It)(fp:List Addr)(it:Addr)(tn:Nat→Heap→Prop):Prop where
 mem:it∈fp
 obj:∀ i h,tn i h→∀ b∈fp,∃ o,h.get? b=some o∧∀ v,o.data≠.cell v
 keep:∀ i h h',tn i h→(∀ b∈fp,∀ o,h.get? b=some o→h'.get? b=some o)→tn i h'
 item:∀ (X:Cx),X.prog=P→X.w=w→X.K=K→X.calm=true→∀ (i:Nat) (pins:List (Addr×Obj)) (s:Shared) (σ:St) (H:Hp) (E:Value→Shared→Prop),Inv X pins σ H s→(∀ b∈fp,FpOk X pins H b)→tn i s.heap→J.go i H→
  wpAny (model P w) X.A (pyNext (.ref it)) (fun r s1=>∃ u,r=some u∧
   wpAny (model P w) X.A (letOwnedTupleGo tg (.ref it) u) (fun _ s2=>∃ x H',Inv X pins σ H' s2∧RelV x u∧J.yld i H x H'∧tn (i+1) s2.heap∧∀ b∈fp,H' b=none) E s1) E s
 done:∀ (X:Cx),X.prog=P→X.w=w→X.K=K→X.calm=true→∀ (i:Nat) (pins:List (Addr×Obj)) (s:Shared) (σ:St) (H:Hp) (E:Value→Shared→Prop),Inv X pins σ H s→(∀ b∈fp,FpOk X pins H b)→tn i s.heap→J.stop i H→
  wpAny (model P w) X.A (pyNext (.ref it)) (fun r s1=>r=none∧Inv X pins σ H s1) E s
 self:∀ (A:Around) (i:Nat) (s:Shared) (Q:Value→Shared→Prop) (E:Value→Shared→Prop),tn i s.heap→Q (.ref it) s→wpAny (model P w) A (pyIter (.ref it)) Q E s
abbrev TI:=St→Hp→(It→Hp→Prop)→Prop
def PIE (X:Cx)(pins:List (Addr×Obj))(σ:St)(tg:Expr)(R:It→Hp→Prop)(itv:Value)(s2:Shared):Prop:=
 ∃ (it:Addr) (fp:List Addr) (tn:Nat→Heap→Prop) (J:It) (H':Hp),itv=.ref it∧Inv X pins σ H' s2∧Turn X.prog X.w X.K tg J fp it tn∧tn 0 s2.heap∧(∀ b∈fp,FpOk X pins H' b)∧R J H'
def PI (X:Cx)(tg iter:Expr)(wi:TI):Prop:=
 ∀ (pins:List (Addr×Obj)) (s:Shared) (σ:St) (H:Hp) (R:It→Hp→Prop),Inv X pins σ H s→wi σ H R→
  wpAny (model X.prog X.w) X.A (eval iter X.env) (fun v s1=>wpAny (model X.prog X.w) X.A (pyIter v) (PIE X pins σ tg R) X.xe s1) X.xe s
theorem go_of {M:Model}{A:Around}{E:Value→Shared→Prop}{s:Shared}{tg:Expr}{it:Addr}{u:Value}{o:Obj}{n:String}{vs:Array Value}{Q:Unit→Shared→Prop}(ho:s.heap.get? it=some o)(hc:o.cls=.type n)(hd:o.data=.fields vs)(hn:["enumerate","zip","dict_itemiterator","dict_reverseitemiterator","odict_iterator","itertools.zip_longest","itertools.pairwise"].contains n=false)(hQ:Q () s):wpAny M A (letOwnedTupleGo tg (.ref it) u) Q E s:=by
 unfold letOwnedTupleGo;cases tg <;> first
  | exact wpAny_pure hQ
  | (cases u <;> first
    | exact wpAny_pure hQ
    | (refine wpAny_bind (wpAny_load ho ?_);rw [hc,hd];show wpAny M A (if (["enumerate","zip","dict_itemiterator","dict_reverseitemiterator","odict_iterator","itertools.zip_longest","itertools.pairwise"].contains n&&vs[0]? == some (rawInt _))=true then _ else _) Q E s;rw [if_neg (by intro h;rw [hn,Bool.false_and] at h;cases h)];exact wpAny_pure hQ))
def Itl (K:PySem.W.Frag)(a:Addr):It:=
 ⟨fun i H=>∃ xs x,SqL K H a xs∧xs[i]? = some x,fun i H x H'=>H'=H∧∀ xs,SqL K H a xs→xs[i]? = some x,fun i H=>∃ xs,SqL K H a xs∧xs.length≤i⟩
def Itr (lo:Int)(n:Nat):It:=⟨fun i _=>i<n,fun i H x H'=>H'=H∧x=.int (lo+i),fun i _=>n≤i⟩
theorem zxl {P:Program}{w:World}{K:PySem.W.Frag}{tg:Expr}(a it:Addr):Turn P w K tg (Itl K a) [it] it (fun i h=>h.IsListIter it a i) where
 mem:=by simp
 obj:=fun i h st b hb=>by
  have e:b=it:=by simpa using hb
  subst e;obtain ⟨o,e,c,d⟩:=st;exact ⟨o,e,fun v z=>by rw [d] at z;cases z⟩
 keep:=fun i h h' st k=>st.at fun o e=>k it (by simp) o e
 item:=by
  intro X hP hw hK hc i pins s σ H E I hf st hg;subst hP hw hK;obtain ⟨xs,x,hq,hx⟩:=hg;obtain ⟨its,rv,p,hz⟩:=I.list hq;obtain ⟨u,hu,ru⟩:=rv.get hx;obtain ⟨f0,f1,f2,f3,f4,f5⟩:=hf it (by simp)
  refine wpAny_pyNext_list_item st p.isList (x:=u) (by simpa using hu) fun h' st' sb=>?_
  have I1:Inv X pins σ H {s with heap:=h'}:=I.turned (t':=s.toks) (fun b o hb e=>(sb.2 b hb).trans e) f0 f1 f3 f4 f5;obtain ⟨o,e,c,d⟩:=id st';exact ⟨u,rfl,go_of (s:={s with heap:=h'}) e c d (by decide) ⟨x,H,I1,ru,⟨rfl,fun ys hy=>by rw [I.zu8 hy hq];exact hx⟩,st',fun b hb=>(hf b hb).1⟩⟩
 done:=by
  intro X hP hw hK hc i pins s σ H E I hf st hg;subst hP hw hK;obtain ⟨xs,hq,hx⟩:=hg;obtain ⟨its,rv,p,hz⟩:=I.list hq;obtain ⟨f0,f1,f2,f3,f4,f5⟩:=hf it (by simp)
  have hl:=rv.length;exact wpAny_pyNext_list_end (I.ok.hd hc) st p.isList (by simp;omega) fun h' eb=>⟨rfl,I.turned (t':=s.toks) (fun b o hb e=>eb b o hb e) f0 f1 f3 f4 f5⟩
 self:=fun _ _ _ _ _ st h=>wpAny_pyIter_listiter st h
theorem zvr {P:Program}{w:World}{K:PySem.W.Frag}{tg:Expr}(it:Addr)(lo:Int)(n:Nat):Turn P w K tg (Itr lo n) [it] it (fun i h=>IsRangeIter h it (lo+(i:Nat)*1) ((n:Int) - (i:Nat)) 1) where
 mem:=by simp
 obj:=fun i h st b hb=>by
  have e:b=it:=by simpa using hb
  subst e;exact ⟨_,st,fun v z=>by
   have z':Data.fields _=Data.cell v:=z;cases z'⟩
 keep:=fun i h h' st k=>k it (by simp) _ st
 item:=by
  intro X hP hw hK hc i pins s σ H E I hf st hg;subst hP hw hK;obtain ⟨f0,f1,f2,f3,f4,f5⟩:=hf it (by simp)
  have W:=Walks.range (prog:=X.prog) (w:=X.w) (I.ok.hd hc) it lo 1 n;refine W.item i s _ _ hg st fun v h' tk hv st' kk=>?_;obtain ⟨t,rfl⟩:=hv;have I1:Inv X pins σ H {s with heap:=h',toks:=tk}:=I.turned (fun b o hb e=>kk b o (by simpa using hb) e) f0 f1 f3 f4 f5
  refine ⟨_,rfl,go_of (s:={s with heap:=h',toks:=tk}) (n:="range_iterator") st' rfl rfl (by decide) ⟨.int (lo+i),H,I1,⟨t,?_⟩,⟨rfl,rfl⟩,st',fun b hb=>(hf b hb).1⟩⟩
  rw [Int.mul_one]
 done:=by
  intro X hP hw hK hc i pins s σ H E I hf st hg;subst hP hw hK;obtain ⟨f0,f1,f2,f3,f4,f5⟩:=hf it (by simp)
  exact wpAny_pyNext_range_end (I.ok.hd hc) st (by have:n≤i:=hg;omega) fun h' eb=>⟨rfl,I.turned (t':=s.toks) (fun b o hb e=>eb b o hb e) f0 f1 f3 f4 f5⟩
 self:=fun _ _ _ _ _ st h=>wpAny_pyIter_rangeiter st h
end L2
namespace L2
open PySem PySem.Spec PyProof.Rows
section
variable {X:Cx}{tg:Expr}
def iList (K:PySem.W.Frag)(tl:TE):TI:=fun σ H R=>tl σ H fun x H1=>∃ a,x=.ref a∧(∃ xs,SqL K H1 a xs)∧R (Itl K a) H1
theorem zfb {l:Expr}{tl:TE}(hl:PE X l tl):PI X tg l (iList X.K tl):=by
 intro pins s σ H R I h;refine thn (hl pins s σ H _ I h) fun v s1 ⟨x,H1,I1,r1,q1⟩=>?_;obtain ⟨a,e,⟨xs,hq⟩,q⟩:=q1;subst e;cases r1;obtain ⟨its,rv,p,hz⟩:=I1.list hq;refine wpAny_pyIter_list p.isList ?_;refine ⟨s1.heap.objs.size,[s1.heap.objs.size],_,_,H1,rfl,I1.kept (t':=s1.toks) fun b o e=>Heap.get?_push_of_some _ e,zxl a _,⟨_,Heap.get?_push_size _ rfl,rfl,rfl⟩,fun b hb=>?_,q⟩;have e:b=s1.heap.objs.size:=by simpa using hb
 subst e;exact I1.fpOk (Nat.le_refl _) (I1.hok.fresh (Nat.le_refl _))
theorem range_it {pins:List (Addr×Obj)}{σ:St}{H:Hp}{s:Shared}{R:It→Hp→Prop}{E:Value→Shared→Prop}{lo hi:Int}{t u v:Tok}{tk:Nat}(I:Inv X pins σ H s)(h1:-(2^62)≤lo)(h2:lo<2^62)(h3:-(2^62)≤hi)(h4:hi<2^62)(q:R (Itr lo (hi - lo).toNat) H):wpAny (model X.prog X.w) X.A (pyIter (.ref s.heap.objs.size)) (PIE X pins σ tg R) E {s with heap:=s.heap.push {cls:=.type "range",data:=.fields #[.int lo t,.int hi u,.int 1 v]},toks:=tk}:=by
 refine wpAny_pyIter_range (IsRange.new ..) (small_one h1 h2 h3 h4) ?_;have I1:Inv X pins σ H {s with heap:=s.heap.push {cls:=.type "range",data:=.fields #[.int lo t,.int hi u,.int 1 v]},toks:=tk}:=I.kept fun b o e=>Heap.get?_push_of_some _ e;refine ⟨(s.heap.push {cls:=.type "range",data:=.fields #[.int lo t,.int hi u,.int 1 v]}).objs.size,[(s.heap.push {cls:=.type "range",data:=.fields #[.int lo t,.int hi u,.int 1 v]}).objs.size],_,_,H,rfl,
  I1.kept (t':=tk) fun b o e=>Heap.get?_push_of_some _ e,zvr _ lo (hi - lo).toNat,?_,fun b hb=>?_,q⟩
 ·have e1:lo+((0:Nat):Int)*1=lo:=by simp
  have e2:(((hi - lo).toNat:Nat):Int) - ((0:Nat):Int)=Builtin.Range.rangeSize lo hi 1:=by rw [rangeSize_one];split <;> omega
  show IsRangeIter _ _ (lo+((0:Nat):Int)*1) ((((hi - lo).toNat:Nat):Int) - ((0:Nat):Int)) 1;rw [e1,e2];exact Heap.get?_push_size _ rfl
 ·have e:b=(s.heap.push {cls:=.type "range",data:=.fields #[.int lo t,.int hi u,.int 1 v]}).objs.size:=by simpa using hb
  subst e;exact I1.fpOk (Nat.le_refl _) (I1.hok.fresh (Nat.le_refl _))
def iRng1 (ta:TA):TI:=fun σ H R=>ta σ H fun vs H1=>∃ j:Int,vs=[.int j]∧-(2^62)≤j∧j<2^62∧R (Itr 0 j.toNat) H1
theorem pi_range1 {a:Expr}{ta:TA}{p pos:Pos}(hg:Gl X "range")(hm:X.mg "range"=none)(ha:PA X [a] ta)(hs:starEach [a] X.env=[(false,eval a X.env)]:=by rfl):PI X tg (.Call (.Name "range" p) [a] [] pos) (iRng1 ta):=by
 intro pins s σ H R I h;refine Call_ (zj6 I hg hm boot_range (PyProof.Rows.callWith_type1 (thn (ha pos pins s σ H _ I h) fun us s1 ⟨vs,H1,I1,r1,q1⟩=>?_) hs rfl));obtain ⟨j,e,q1,q2,q⟩:=q1;subst e;cases r1 with
 | cons r rr=>
  cases rr;obtain ⟨t,rfl⟩:=r;exact call_range_1 (range_it I1 (by omega) (by omega) q1 q2 (by simpa using q))
def tFor (wi:TI)(g:TG)(tb:TS):TS:=fun D σ H=>wi σ H fun J H1=>∃ W:Nat→Nat→St→Hp→Prop,(∃ m,W 0 m σ H1)∧∀ i m σ H,W i m σ H→
 (J.stop i H∧D.nx σ H)∨(J.go i H∧∃ N:St→Hp→Prop,(∀ σ' H',N σ' H'→∃ m',m'<m∧W (i+1) m' σ' H')∧∀ x H',J.yld i H x H'→g x σ H' fun σ2 H2=>tb {D with nx:=N,ct:=N,bk:=D.nx} σ2 H2)
def pinsAt (fp:List Addr)(h:Heap):List (Addr×Obj):=fp.filterMap fun b=>(h.get? b).map fun o=>(b,o)
theorem zfi {fp:List Addr}{h:Heap}{b:Addr}{o:Obj}(hb:b∈fp)(e:h.get? b=some o):(b,o)∈pinsAt fp h:=List.mem_filterMap.mpr ⟨b,hb,by rw [e];rfl⟩
theorem of_pinsAt {fp:List Addr}{h:Heap}{p:Addr×Obj}(hp:p∈pinsAt fp h):p.1∈fp∧h.get? p.1=some p.2:=by
 obtain ⟨b,hb,e⟩:=List.mem_filterMap.mp hp;cases q:h.get? b with
 | none=>rw [q] at e;cases e
 | some o=>
  rw [q] at e;have e':(b,o)=p:=Option.some.inj e;subst e';exact ⟨hb,q⟩
theorem Inv.pinned {pins:List (Addr×Obj)}{σ:St}{H:Hp}{s:Shared}{fp:List Addr}(I:Inv X pins σ H s)(hf:∀ b∈fp,FpOk X pins H b)(ho:∀ b∈fp,∃ o,s.heap.get? b=some o∧∀ v,o.data≠.cell v):Inv X (pins++pinsAt fp s.heap) σ H s:=
 I.pins_of fun p hp=>(List.mem_append.mp hp).elim (fun z=>I.pin p (List.mem_append_right _ z)) fun z=>by
  obtain ⟨hb,e⟩:=of_pinsAt z;obtain ⟨f0,f1,f2,_⟩:=hf p.1 hb;obtain ⟨o,e',d⟩:=ho p.1 hb;rw [e] at e';cases e';exact ⟨e,f0,f1,f2,d⟩
theorem Inv.unpinned {pins pl:List (Addr×Obj)}{σ:St}{H:Hp}{s:Shared}(I:Inv X (pins++pl) σ H s):Inv X pins σ H s:=I.pins_of fun p hp=>I.pin p (List.mem_append_right _ (List.mem_append_left _ hp))
theorem zim {iter:Expr}{body:List Stmt}{wi:TI}{g:TG}{tb:TS}{pos:Pos}(hp:PassesOwn (model X.prog X.w) X.A X.env X.xe)(hc:X.calm=true)(hi:PI X tg iter wi)(hg:PG X tg g)(hb:PSs X body tb)(hs:∀ x,foldedSetIterable iter X.env x=pure x:=by intro _;rfl):PS X (.For tg iter body [] pos) (tFor wi g tb):=by
 intro pins s σ H D I h;refine wpAny_For (thn (hi pins s σ H _ I h) fun v s1 h1=>thn h1 fun itv s2 h2=>?_) hs;obtain ⟨it,fp,tn,J,H2,e,I2,T,st2,f2,W,⟨m0,w0⟩,turn⟩:=h2;subst e;have stat:∀ {H':Hp},(∀ b∈fp,H' b=none)→∀ b∈fp,FpOk X pins H' b:=fun hn b hb=>⟨hn b hb,(f2 b hb).2⟩;refine codeAny_forLoop_any (fun n s'=>∃ i σ' H',Inv X pins σ' H' s'∧tn i s'.heap∧(∀ b∈fp,H' b=none)∧W i n σ' H') ?_ m0 ⟨0,σ,H2,I2,st2,fun b hb=>(f2 b hb).1,w0⟩;rintro n s3 ⟨i,σ3,H3,I3,st3,fr3,w3⟩;rcases turn i n σ3 H3 w3 with ⟨stop,qn⟩ | ⟨go,N,hN,step⟩
 ·refine wpAny_passesOwn hp (thn (T.done X rfl rfl rfl hc i pins s3 σ3 H3 X.xe I3 (stat fr3) st3 stop) fun r s4 ⟨hr,I4⟩=>?_);subst hr;exact wpAny_execs_nil ⟨σ3,H3,I4,qn⟩
 ·refine wpAny_passesOwn hp (thn (T.item X rfl rfl rfl hc i pins s3 σ3 H3 X.xe I3 (stat fr3) st3 go) fun r s4 ⟨u,hr,h4⟩=>?_);subst hr;refine wpAny_passesOwn hp (thn h4 fun _ s5 ⟨x,H5,I5,r5,y5,st5,fr5⟩=>?_);have I5':=I5.pinned (stat fr5) (T.obj _ _ st5);refine wpAny_passesOwn hp (thn (hg _ s5 σ3 H5 x u _ I5' r5 (step x H5 y5)) fun _ s6 ⟨σ6,H6,I6,q6⟩=>?_);refine wpAny_passesOwn hp (thn (hb _ s6 σ6 H6 _ I6 q6) fun f s7 q7=>?_);have again:∀ {σ7:St} {H7:Hp},Inv X (pins++pinsAt fp s5.heap) σ7 H7 s7→N σ7 H7→∃ m,m<n∧∃ i σ' H',Inv X pins σ' H' s7∧tn i s7.heap∧(∀ b∈fp,H' b=none)∧W i m σ' H':=fun {σ7 H7} I7 n7=>by
   obtain ⟨m',hm,w7⟩:=hN σ7 H7 n7;refine ⟨m',hm,i+1,σ7,H7,I7.unpinned,T.keep _ _ _ st5 fun b hb o e=>(I7.pin (b,o) (List.mem_append_right _ (List.mem_append_right _ (zfi hb e)))).1,fun b hb=>?_,w7⟩;obtain ⟨o,e,d⟩:=T.obj _ _ st5 b hb;exact (I7.pin (b,o) (List.mem_append_right _ (List.mem_append_right _ (zfi hb e)))).2.1
  cases f with
  | next=>obtain ⟨σ7,H7,I7,n7⟩:=q7;exact again I7 n7
  | cont=>obtain ⟨σ7,H7,I7,n7⟩:=q7;exact again I7 n7
  | brk=>obtain ⟨σ7,H7,I7,q7⟩:=q7;exact ⟨σ7,H7,I7.unpinned,q7⟩
  | ret v=>obtain ⟨x7,σ7,H7,I7,r7,q7⟩:=q7;exact ⟨x7,σ7,H7,I7.unpinned,r7,q7⟩
end
theorem zk7 {K:PySem.W.Frag}{a:Addr}{xs:List V}{g:TG}{tb:TS}{D:Ends}{σ:St}{H:Hp}(Pv:Nat→St→Hp→Prop)(h0:Pv 0 σ H)(hl:∀ i σ H,i≤xs.length→Pv i σ H→SqL K H a xs)(hs:∀ i x σ H,xs[i]? = some x→Pv i σ H→g x σ H fun σ2 H2=>tb {D with nx:=Pv (i+1),ct:=Pv (i+1),bk:=D.nx} σ2 H2)(hd:∀ σ H,Pv xs.length σ H→D.nx σ H):
  ∃ W:Nat→Nat→St→Hp→Prop,(∃ m,W 0 m σ H)∧∀ i m σ H,W i m σ H→
   ((Itl K a).stop i H∧D.nx σ H)∨((Itl K a).go i H∧∃ N:St→Hp→Prop,(∀ σ' H',N σ' H'→∃ m',m'<m∧W (i+1) m' σ' H')∧∀ x H',(Itl K a).yld i H x H'→g x σ H' fun σ2 H2=>tb {D with nx:=N,ct:=N,bk:=D.nx} σ2 H2):=by
 refine ⟨fun i m σ H=>m=xs.length - i∧i≤xs.length∧Pv i σ H,⟨xs.length,by simp,Nat.zero_le _,h0⟩,?_⟩
 rintro i m σ H ⟨rfl,hi,p⟩;have q:=hl i σ H hi p;by_cases hlt:i<xs.length
 ·refine .inr ⟨⟨xs,xs[i],q,by simp [hlt]⟩,Pv (i+1),fun σ' H' p'=>⟨xs.length - (i+1),by omega,rfl,hlt,p'⟩,fun x H' y=>?_⟩
  obtain ⟨e,y⟩:=y;subst e;exact hs i x σ _ (y xs q) p
 ·have e:i=xs.length:=by omega
  subst e;exact .inl ⟨⟨xs,q,Nat.le_refl _⟩,hd σ H p⟩
theorem for_range {lo:Int}{n:Nat}{g:TG}{tb:TS}{D:Ends}{σ:St}{H:Hp}(Pv:Nat→St→Hp→Prop)(h0:Pv 0 σ H)(hs:∀ i σ H,i<n→Pv i σ H→g (.int (lo+i)) σ H fun σ2 H2=>tb {D with nx:=Pv (i+1),ct:=Pv (i+1),bk:=D.nx} σ2 H2)(hd:∀ σ H,Pv n σ H→D.nx σ H):
  ∃ W:Nat→Nat→St→Hp→Prop,(∃ m,W 0 m σ H)∧∀ i m σ H,W i m σ H→
   ((Itr lo n).stop i H∧D.nx σ H)∨((Itr lo n).go i H∧∃ N:St→Hp→Prop,(∀ σ' H',N σ' H'→∃ m',m'<m∧W (i+1) m' σ' H')∧∀ x H',(Itr lo n).yld i H x H'→g x σ H' fun σ2 H2=>tb {D with nx:=N,ct:=N,bk:=D.nx} σ2 H2):=by
 refine ⟨fun i m σ H=>m=n - i∧i≤n∧Pv i σ H,⟨n,by simp,Nat.zero_le _,h0⟩,?_⟩
 rintro i m σ H ⟨rfl,hi,p⟩;by_cases hlt:i<n
 ·refine .inr ⟨hlt,Pv (i+1),fun σ' H' p'=>⟨n - (i+1),by omega,rfl,hlt,p'⟩,fun x H' y=>?_⟩
  obtain ⟨e,y⟩:=y;subst e y;exact hs i σ _ hlt p
 ·have e:i=n:=by omega
  subst e;exact .inl ⟨Nat.le_refl _,hd σ H p⟩
theorem zuk {c:TT}{tb:TS}{D:Ends}{σ:St}{H:Hp}(Pv:St→Hp→Prop)(μ:St→Hp→Nat)(h0:Pv σ H)(hs:∀ σ H,Pv σ H→c σ H fun b H1=>if b=true then tb {D with nx:=fun σ' H'=>Pv σ' H'∧μ σ' H' < μ σ H,ct:=fun σ' H'=>Pv σ' H'∧μ σ' H' < μ σ H,bk:=D.nx} σ H1 else D.nx σ H1)(mono:∀ σ H Q Q',(∀ b H1,Q b H1→Q' b H1)→c σ H Q→c σ H Q'):tWhile c tb D σ H:=by
 refine ⟨fun m σ H=>m=μ σ H∧Pv σ H,⟨_,rfl,h0⟩,?_⟩;rintro m σ H ⟨rfl,p⟩;refine mono σ H _ _ (fun b H1 q=>?_) (hs σ H p);cases b with
 | true=>exact ⟨_,fun σ' H' ⟨p',l⟩=>⟨_,l,rfl,p'⟩,q⟩
 | false=>exact q
end L2
namespace L2
open PySem PySem.Spec PyProof.Rows
abbrev R2:=V→V→Hp→VK→Prop
def OpR (X:Cx)(f:Value→Value→Sem Value)(r:R2):Prop:=
 ∀ (pins:List (Addr×Obj)) (s:Shared) (σ:St) (H:Hp) (x y:V) (v u:Value) (Q:VK),Inv X pins σ H s→RelV x v→RelV y u→r x y H Q→
  wpAny (model X.prog X.w) X.A (f v u) (EP X pins σ Q) X.xe s
def UnR (X:Cx)(f:Value→Sem Value)(r:V→Hp→VK→Prop):Prop:=
 ∀ (pins:List (Addr×Obj)) (s:Shared) (σ:St) (H:Hp) (x:V) (v:Value) (Q:VK),Inv X pins σ H s→RelV x v→r x H Q→
  wpAny (model X.prog X.w) X.A (f v) (EP X pins σ Q) X.xe s
def CallR (X:Cx)(f:Value)(r:List V→Hp→VK→Prop):Prop:=
 ∀ (pins:List (Addr×Obj)) (s:Shared) (σ:St) (H:Hp) (xs:List V) (us:List Value) (Q:VK),Inv X pins σ H s→Vals xs us→r xs H Q→
  wpAny (model X.prog X.w) X.A (call f us) (EP X pins σ Q) X.xe s
def TruR (X:Cx)(r:V→Hp→(Bool→Hp→Prop)→Prop):Prop:=
 ∀ (pins:List (Addr×Obj)) (s:Shared) (σ:St) (H:Hp) (x:V) (v:Value) (Q:Bool→Hp→Prop),Inv X pins σ H s→RelV x v→r x H Q→
  wpAny (model X.prog X.w) X.A (truthy v) (TP X pins σ Q) X.xe s
def tOp (r:R2)(ta tb:TE):TE:=fun σ H Q=>ta σ H fun x H1=>tb σ H1 fun y H2=>r x y H2 Q
def tUn (r:V→Hp→VK→Prop)(ta:TE):TE:=fun σ H Q=>ta σ H fun x H1=>r x H1 Q
def rI (C:Int→Int→Prop)(g:Int→Int→V):R2:=fun x y H Q=>∃ i j,x=.int i∧y=.int j∧C i j∧Q (g i j) H
def rI0 (g:Int→Int→V):R2:=fun x y H Q=>∃ i j,x=.int i∧y=.int j∧Q (g i j) H
def rU (g:Int→V):V→Hp→VK→Prop:=fun x H Q=>∃ i,x=.int i∧Q (g i) H
section
variable {X:Cx}{a b c:Expr}{ta tb tc:TE}{pos:Pos}
theorem binT (ha:PE X a ta)(hb:PE X b tb){pins:List (Addr×Obj)}{s:Shared}{σ:St}{H:Hp}{R:V→V→Hp→Prop}(I:Inv X pins σ H s)(h:ta σ H fun x H1=>tb σ H1 fun y H2=>R x y H2){Q:Value→Shared→Prop}{f:Value→Value→Sem Value}(hf:∀ v u s2 x y H2,Inv X pins σ H2 s2→RelV x v→RelV y u→R x y H2→wpAny (model X.prog X.w) X.A (f v u) Q X.xe s2):
  wpAny (model X.prog X.w) X.A (eval a X.env) (fun v s₁=>wpAny (model X.prog X.w) X.A (eval b X.env) (fun u s₂=>wpAny (model X.prog X.w) X.A (f v u) Q X.xe s₂) X.xe s₁) X.xe s:=by
 refine thn (ha pins s σ H _ I h) fun v s1 ⟨x,H1,I1,r1,q1⟩=>?_;refine thn (hb pins s1 σ H1 _ I1 q1) fun u s2 ⟨y,H2,I2,r2,q2⟩=>?_;exact hf v u s2 x y H2 I2 r1 r2 q2
theorem zc6 {op:Operator}{r:R2}(ho:OpR X (binaryOp op) r)(ha:PE X a ta)(hb:PE X b tb):PE X (.BinOp a op b pos) (tOp r ta tb):=by
 intro pins s σ H Q I h;exact wpAny_BinOp (binT ha hb I h fun v u s2 x y H2 I2 rx ry q=>ho pins s2 σ H2 x y v u Q I2 rx ry q)
theorem pe_un {op:UnaryOp}{r:V→Hp→VK→Prop}(ho:UnR X (unaryOp op) r)(ha:PE X a ta):PE X (.UnaryOp op a pos) (tUn r ta):=by
 intro pins s σ H Q I h;exact UnaryOp_ (thn (ha pins s σ H _ I h) fun v s1 ⟨x,H1,I1,r1,q1⟩=>ho pins s1 σ H1 x v Q I1 r1 q1)
theorem opI {f:Value→Value→Sem Value}{C:Int→Int→Prop}{g:Int→Int→Int}(rule:∀ (i j:Int) (t u:Tok) (s:Shared) (Q:Value→Shared→Prop) (E:Value→Shared→Prop),C i j→Q (.int (g i j) s.toks) {s with toks:=s.toks+1}→wpAny (model X.prog X.w) X.A (f (.int i t) (.int j u)) Q E s):
  OpR X f (rI C fun i j=>.int (g i j)):=by
 intro pins s σ H x y v u Q I rx ry h;obtain ⟨i,j,rfl,rfl,hc,q⟩:=h;obtain ⟨t,rfl⟩:=rx;obtain ⟨t',rfl⟩:=ry;exact rule i j t t' s _ _ hc ⟨.int (g i j),H,I.tok _,⟨_,rfl⟩,q⟩
theorem opI0 {f:Value→Value→Sem Value}{g:Int→Int→Int}(rule:∀ (i j:Int) (t u:Tok) (s:Shared) (Q:Value→Shared→Prop) (E:Value→Shared→Prop),Q (.int (g i j) s.toks) {s with toks:=s.toks+1}→wpAny (model X.prog X.w) X.A (f (.int i t) (.int j u)) Q E s):
  OpR X f (rI0 fun i j=>.int (g i j)):=by
 intro pins s σ H x y v u Q I rx ry h;obtain ⟨i,j,rfl,rfl,q⟩:=h;obtain ⟨t,rfl⟩:=rx;obtain ⟨t',rfl⟩:=ry;exact rule i j t t' s _ _ ⟨.int (g i j),H,I.tok _,⟨_,rfl⟩,q⟩
theorem opB0 {f:Value→Value→Sem Value}{g:Int→Int→Bool}(rule:∀ (i j:Int) (t u:Tok) (s:Shared) (Q:Value→Shared→Prop) (E:Value→Shared→Prop),Q (.bool (g i j)) s→wpAny (model X.prog X.w) X.A (f (.int i t) (.int j u)) Q E s):
  OpR X f (rI0 fun i j=>.bl (g i j)):=by
 intro pins s σ H x y v u Q I rx ry h;obtain ⟨i,j,rfl,rfl,q⟩:=h;obtain ⟨t,rfl⟩:=rx;obtain ⟨t',rfl⟩:=ry;exact rule i j t t' s _ _ ⟨.bl (g i j),H,I,rfl,q⟩
def CPow (i j:Int):Prop:=0≤j∧j≤1000000∧i.natAbs<2^64
def CMul (i j:Int):Prop:=(-(2^64)<i∧i<2^64)∨(-(2^64)<j∧j<2^64)
theorem CMul.ok {i j:Int}(h:CMul i j):IntMulOk i j:=by
 rcases h with ⟨h1,h2⟩ | ⟨h1,h2⟩
 ·exact .of_left (intBits_le_64 h1 h2)
 ·exact .of_right (intBits_le_64 h1 h2)
theorem zvq (k:Nat):(0:Int)≤2^k:=by
 rw [two_pow_cast];exact Int.natCast_nonneg _
theorem zgh:OpR X (binaryOp .Add) (rI0 fun i j=>.int (i+j)):=opI0 fun _ _ _ _ _ _ _ q=>add_int q
theorem op_mul:OpR X (binaryOp .Mult) (rI CMul fun i j=>.int (i*j)):=opI fun _ _ _ _ _ _ _ hc q=>mul_int q hc.ok
theorem op_shl:OpR X (binaryOp .LShift) (rI CPow fun i j=>.int (i*2^j.toNat)):=opI fun _ _ _ _ _ _ _ hc q=>lshift_int_small hc.1 hc.2.1 hc.2.2 q
theorem op_shr:OpR X (binaryOp .RShift) (rI (fun _ j=>0≤j) fun i j=>.int (i / 2^j.toNat)):=opI fun i j _ _ _ _ _ hc q=>
 rshift_int hc (by rw [Int.fdiv_eq_ediv_of_nonneg i (zvq _)];exact q)
theorem op_and:OpR X (binaryOp .BitAnd) (rI0 fun i j=>.int (Builtin.bitAnd i j)):=opI0 fun _ _ _ _ _ _ _ q=>and_int q
theorem op_or:OpR X (binaryOp .BitOr) (rI0 fun i j=>.int (Builtin.bitOr i j)):=opI0 fun _ _ _ _ _ _ _ q=>or_int q
theorem unI {f:Value→Sem Value}{g:Int→Int}(rule:∀ (i:Int) (t:Tok) (s:Shared) (Q:Value→Shared→Prop) (E:Value→Shared→Prop),Q (.int (g i) s.toks) {s with toks:=s.toks+1}→wpAny (model X.prog X.w) X.A (f (.int i t)) Q E s):
  UnR X f (rU fun i=>.int (g i)):=by
 intro pins s σ H x v Q I rx h;obtain ⟨i,rfl,q⟩:=h;obtain ⟨t,rfl⟩:=rx;exact rule i t s _ _ ⟨.int (g i),H,I.tok _,⟨_,rfl⟩,q⟩
theorem un_neg:UnR X (unaryOp .USub) (rU fun i=>.int (-i)):=unI fun _ _ _ _ _ q=>neg_int q
end
def scal:V→V→Bool
 | .non,.non=>true | .non,.int _=>true | .int _,.non=>true | .non,.bl _=>true | .bl _,.non=>true | .non,.str _=>true | .str _,.non=>true
 | .int _,.int _=>true | .bl _,.bl _=>true | .str _,.str _=>true | .byt _,.byt _=>true
 | .int _,.str _=>true | .str _,.int _=>true | .bl _,.str _=>true | .str _,.bl _=>true
 | _,_=>false
def rEq:R2:=fun x y H Q=>scal x y=true∧Q (.bl (decide (x=y))) H
def rNe:R2:=fun x y H Q=>scal x y=true∧Q (.bl (!decide (x=y))) H
theorem dec_int {i j:Int}:decide (V.int i=V.int j)=(i==j):=by
 rw [Bool.eq_iff_iff];simp
theorem dec_bl {i j:Bool}:decide (V.bl i=V.bl j)=(i==j):=by
 rw [Bool.eq_iff_iff];simp
theorem dec_str {i j:Str}:decide (V.str i=V.str j)=(i==j):=by
 rw [Bool.eq_iff_iff];simp
theorem dec_byt {i j:Array UInt8}:decide (V.byt i=V.byt j)=(i.toList==j.toList):=by
 rw [Bool.eq_iff_iff];cases i;cases j;simp
section
variable {X:Cx}{a b c:Expr}{ta tb tc:TE}{pos:Pos}
theorem zbf {pins:List (Addr×Obj)}{σ:St}{H:Hp}{s:Shared}{Q:VK}{k k':Bool}(I:Inv X pins σ H s)(q:Q (.bl k) H)(e:k=k'):EP X pins σ Q (.bool k') s:=by
 subst e;exact ⟨.bl k,H,I,rfl,q⟩
theorem zcd:OpR X (compareOp .Eq) rEq:=by
 intro pins s σ H x y v u Q I rx ry h;obtain ⟨hs,q⟩:=h;cases x with
 | non=>
  cases rx;cases y with
  | non=>cases ry;exact PySem.EqNone.eq_none_none (zbf I q (by simp))
  | bl j=>cases ry;exact PySem.EqNone.eq_none_bool (zbf I q (by simp))
  | int j=>obtain ⟨t',rfl⟩:=ry;exact PySem.EqNone.eq_none_int (zbf I q (by simp))
  | str j=>obtain ⟨t',rfl⟩:=ry;exact PySem.EqNone.eq_none_str (zbf I q (by simp))
  | _=>exact absurd (show false=true from hs) Bool.false_ne_true
 | bl i=>
  cases rx;cases y with
  | non=>cases ry;exact PySem.EqNone.eq_bool_none (zbf I q (by simp))
  | bl j=>cases ry;exact eq_bool (zbf I q dec_bl)
  | str j=>obtain ⟨t',rfl⟩:=ry;exact PySem.EqMixed.eq_bool_str (zbf I q (by simp))
  | _=>exact absurd (show false=true from hs) Bool.false_ne_true
 | int i=>
  obtain ⟨t,rfl⟩:=rx;cases y with
  | non=>cases ry;exact PySem.EqNone.eq_int_none (zbf I q (by simp))
  | int j=>obtain ⟨t',rfl⟩:=ry;exact eq_int (zbf I q dec_int)
  | str j=>obtain ⟨t',rfl⟩:=ry;exact PySem.EqMixed.eq_int_str (zbf I q (by simp))
  | _=>exact absurd (show false=true from hs) Bool.false_ne_true
 | str i=>
  obtain ⟨t,rfl⟩:=rx;cases y with
  | non=>cases ry;exact PySem.EqNone.eq_str_none (zbf I q (by simp))
  | bl j=>cases ry;exact PySem.EqMixed.eq_str_bool (zbf I q (by simp))
  | int j=>obtain ⟨t',rfl⟩:=ry;exact PySem.EqMixed.eq_str_int (zbf I q (by simp))
  | str j=>obtain ⟨t',rfl⟩:=ry;exact eq_str (zbf I q dec_str)
  | _=>exact absurd (show false=true from hs) Bool.false_ne_true
 | byt i=>
  obtain ⟨t,rfl⟩:=rx;cases y with
  | byt j=>obtain ⟨t',rfl⟩:=ry;exact PySem.W.eq_bytes (zbf I q dec_byt)
  | _=>exact absurd (show false=true from hs) Bool.false_ne_true
 | _=>cases y <;> exact absurd (show false=true from hs) Bool.false_ne_true
theorem zmp:OpR X (compareOp .NotEq) rNe:=by
 intro pins s σ H x y v u Q I rx ry h;obtain ⟨hs,q⟩:=h;cases x with
 | non=>
  cases rx;cases y with
  | non=>cases ry;exact PySem.EqNone.ne_none_none (zbf I q (by simp))
  | bl j=>cases ry;exact PySem.EqNone.ne_none_bool (zbf I q (by simp))
  | int j=>obtain ⟨t',rfl⟩:=ry;exact PySem.EqNone.ne_none_int (zbf I q (by simp))
  | str j=>obtain ⟨t',rfl⟩:=ry;exact PySem.EqNone.ne_none_str (zbf I q (by simp))
  | _=>exact absurd (show false=true from hs) Bool.false_ne_true
 | bl i=>
  cases rx;cases y with
  | non=>cases ry;exact PySem.EqNone.ne_bool_none (zbf I q (by simp))
  | bl j=>cases ry;exact ne_bool (zbf I q (congrArg not dec_bl))
  | str j=>obtain ⟨t',rfl⟩:=ry;exact PySem.EqMixed.ne_bool_str (zbf I q (by simp))
  | _=>exact absurd (show false=true from hs) Bool.false_ne_true
 | int i=>
  obtain ⟨t,rfl⟩:=rx;cases y with
  | non=>cases ry;exact PySem.EqNone.ne_int_none (zbf I q (by simp))
  | int j=>obtain ⟨t',rfl⟩:=ry;exact ne_int (zbf I q (congrArg not dec_int))
  | str j=>obtain ⟨t',rfl⟩:=ry;exact PySem.EqMixed.ne_int_str (zbf I q (by simp))
  | _=>exact absurd (show false=true from hs) Bool.false_ne_true
 | str i=>
  obtain ⟨t,rfl⟩:=rx;cases y with
  | non=>cases ry;exact PySem.EqNone.ne_str_none (zbf I q (by simp))
  | bl j=>cases ry;exact PySem.EqMixed.ne_str_bool (zbf I q (by simp))
  | int j=>obtain ⟨t',rfl⟩:=ry;exact PySem.EqMixed.ne_str_int (zbf I q (by simp))
  | str j=>obtain ⟨t',rfl⟩:=ry;exact ne_str (zbf I q (congrArg not dec_str))
  | _=>exact absurd (show false=true from hs) Bool.false_ne_true
 | byt i=>
  obtain ⟨t,rfl⟩:=rx;cases y with
  | byt j=>obtain ⟨t',rfl⟩:=ry;exact PySem.W.ne_bytes (zbf I q (congrArg not dec_byt))
  | _=>exact absurd (show false=true from hs) Bool.false_ne_true
 | _=>cases y <;> exact absurd (show false=true from hs) Bool.false_ne_true
theorem op_lt:OpR X (compareOp .Lt) (rI0 fun i j=>.bl (decide (i<j))):=opB0 fun _ _ _ _ _ _ _ q=>lt_int q
theorem op_le:OpR X (compareOp .LtE) (rI0 fun i j=>.bl (decide (i≤j))):=opB0 fun _ _ _ _ _ _ _ q=>le_int q
theorem zoz:OpR X (compareOp .Gt) (rI0 fun i j=>.bl (decide (j<i))):=opB0 fun _ _ _ _ _ _ _ q=>gt_int q
theorem zv8:OpR X (compareOp .GtE) (rI0 fun i j=>.bl (decide (j≤i))):=opB0 fun _ _ _ _ _ _ _ q=>ge_int q
theorem op_isN:OpR X (compareOp .Is) (fun x y H Q=>y=.non∧Q (.bl (decide (x=.non))) H):=by
 intro pins s σ H x y v u Q I rx ry h;obtain ⟨rfl,q⟩:=h;cases ry;refine is_none_gen (zbf I q ?_);cases x <;> first
  | (cases rx;rfl)
  | (obtain ⟨t,rfl⟩:=rx;rfl)
theorem nomark (b:Expr){op:CmpOp}(h:op≠.In:=by decide)(h2:op≠.NotIn:=by decide):behindInMarks op b=false:=by
 have e1:(op==CmpOp.In)=false:=by cases op <;> first | rfl | exact absurd rfl h
 have e2:(op==CmpOp.NotIn)=false:=by cases op <;> first | rfl | exact absurd rfl h2
 cases b <;> simp [behindInMarks,e1,e2]
theorem zg7 {op:CmpOp}{r:R2}(ho:OpR X (compareOp op) r)(ha:PE X a ta)(hb:PE X b tb)(hm:behindInMarks op b=false):PE X (.Compare a [op] [b] pos) (tOp r ta tb):=by
 intro pins s σ H Q I h;exact wpAny_Compare1 (binT ha hb I h fun v u s2 x y H2 I2 rx ry q=>ho pins s2 σ H2 x y v u Q I2 rx ry q) hm
def tTest (t:TE):TT:=fun σ H Q=>t σ H fun x H'=>∃ k,x=.bl k∧Q k H'
theorem zai {op:CmpOp}{r:R2}(ho:OpR X (compareOp op) r)(ha:PE X a ta)(hb:PE X b tb)(hm:behindInMarks op b=false):PT X (.Compare a [op] [b] pos) (tTest (tOp r ta tb)):=by
 intro pins s σ H Q I h;refine wpAny_isTrue_Compare1 (thn (ha pins s σ H _ I h) fun v s1 ⟨x,H1,I1,r1,q1⟩=>thn (hb pins s1 σ H1 _ I1 q1) fun u s2 ⟨y,H2,I2,r2,q2⟩=>
  thn (ho pins s2 σ H2 x y v u _ I2 r1 r2 q2) fun c s3 ⟨z,H3,I3,r3,k,e,q3⟩=>?_) hm
 subst e;cases r3;exact wpAny_truthy_bool ⟨H3,I3,q3⟩
def TruV (K:PySem.W.Frag)(x:V)(H:Hp)(k:Bool):Prop:=
 match x with
 | .non=>k=false
 | .bl b=>k=b
 | .int i=>k=(i != 0)
 | .str y=>y.length≤sizeLine∧k=((y.length:Int) != 0)
 | .byt y=>y.size≤sizeLine∧k=((y.size:Int) != 0)
 | .ref p=>(∃ xs,SqL K H p xs∧k=!xs.isEmpty)∨(∃ xs,SqT K H p xs∧k=!xs.isEmpty)∨∃ kvs,H p=some (.dK kvs)∧k=!kvs.isEmpty
 | _=>False
theorem zwp {κ:Type}{kvs:List (κ×V)}{vs:List (κ×Value)}(r:KV kvs vs):(!vs.isEmpty)=!kvs.isEmpty:=by
 cases r <;> rfl
theorem znu {xs:List V}{its:List Value}(r:Vals xs its):(!its.toArray.isEmpty)=!xs.isEmpty:=by
 cases r <;> simp
theorem line63:(sizeLine:Nat)<2^63:=by rw [sizeLine_eq];decide
theorem tru_ok:TruR X (fun x H Q=>∃ k,TruV X.K x H k∧Q k H):=by
 intro pins s σ H x v Q I rx h;obtain ⟨k,e,q⟩:=h;have hl:=line63;have hs:sizeLine=16777216:=sizeLine_eq;cases x with
 | non=>
  cases rx;have e':k=false:=e;subst e';exact truthy_none ⟨H,I,q⟩
 | bl b=>
  cases rx;have e':k=b:=e;subst e';exact wpAny_truthy_bool ⟨H,I,q⟩
 | int i=>
  obtain ⟨t,rfl⟩:=rx;have e':k=(i != 0):=e;subst e';exact PySem.P.truthy_int ⟨H,I,q⟩
 | str y=>
  obtain ⟨t,rfl⟩:=rx;obtain ⟨hy,e'⟩:y.length≤sizeLine∧k=((y.length:Int) != 0):=e;subst e';exact PySem.P.truthy_str (by omega) ⟨H,I.tok _,q⟩
 | byt y=>
  obtain ⟨t,rfl⟩:=rx;obtain ⟨hy,e'⟩:y.size≤sizeLine∧k=((y.size:Int) != 0):=e;subst e';exact PySem.W.truthy_bytes (by omega) ⟨H,I.tok _,q⟩
 | ref p=>
  cases rx;have e':(∃ xs,SqL X.K H p xs∧k=!xs.isEmpty)∨(∃ xs,SqT X.K H p xs∧k=!xs.isEmpty)∨∃ kvs,H p=some (.dK kvs)∧k=!kvs.isEmpty:=e;rcases e' with ⟨xs,hx,e'⟩ | ⟨xs,hx,e'⟩ | ⟨kvs,hx,e'⟩
  ·subst e';obtain ⟨its,r,pl,hz⟩:=I.list hx;have hlen:=r.length;exact wpAny_truthy_list pl.isList (by simp only [List.size_toArray];omega) ⟨H,I.tok _,by rw [znu r];exact q⟩
  ·subst e';obtain ⟨its,r,pl,hz⟩:=I.tuple hx;have hlen:=r.length;exact truthy_tuple pl (by simp only [List.size_toArray];omega) ⟨H,I.tok _,by rw [znu r];exact q⟩
  ·subst e';obtain ⟨hz,hS,vs,r,m⟩:kvs.length≤sizeLine∧(p==sysModules)=false∧∃ vs,KV kvs vs∧s.heap.DictOf (mixKind X.prog X.w) p vs:=I.hok p _ hx;have hlen:kvs.length=vs.length:=Paired.length r;exact wpAny_truthy_dict hS m (by omega) ⟨H,I.tok _,by rw [zwp r];exact q⟩
 | _=>exact (show False from e).elim
theorem vals1 {x:V}{us:List Value}(r:Vals [x] us):∃ u,us=[u]∧RelV x u:=by
 cases r with
 | cons r1 r2=>cases r2;exact ⟨_,rfl,r1⟩
theorem zse:CallR X (.type "str") (fun xs H Q=>∃ i,xs=[.int i]∧i.natAbs.log2<1920∧Q (.str (toString i)) H):=by
 intro pins s σ H xs us Q I r h;obtain ⟨i,rfl,hz,q⟩:=h;obtain ⟨u,rfl,t,rfl⟩:=vals1 r;exact PySem.P.str_of_int hz ⟨.str _,H,I.tok _,⟨_,rfl⟩,q⟩
theorem zvl:CallR X (.builtin "ord") (fun xs H Q=>∃ x,xs=[.str x]∧x.length=1∧Q (.int (x.cps.getD 0 0:Nat)) H):=by
 intro pins s σ H xs us Q I r h;obtain ⟨x,rfl,hz,q⟩:=h;obtain ⟨u,rfl,t,rfl⟩:=vals1 r;exact ord_of_one hz ⟨.int _,H,I.tok _,⟨_,rfl⟩,q⟩
def LenV (K:PySem.W.Frag)(x:V)(H:Hp)(n:Nat):Prop:=
 match x with
 | .str y=>y.length≤sizeLine∧n=y.length
 | .byt y=>y.size≤sizeLine∧n=y.size
 | .ref p=>(∃ xs,SqL K H p xs∧n=xs.length)∨∃ xs,SqT K H p xs∧n=xs.length
 | _=>False
theorem zap:CallR X (.builtin "len") (fun xs H Q=>∃ x n,xs=[x]∧LenV X.K x H n∧Q (.int n) H):=by
 intro pins s σ H xs us Q I r h;obtain ⟨x,n,rfl,e,q⟩:=h;obtain ⟨u,rfl,rx⟩:=vals1 r;have hl:=line63;have hs:sizeLine=16777216:=sizeLine_eq;cases x with
 | str y=>
  obtain ⟨t,rfl⟩:=rx;obtain ⟨hy,e'⟩:y.length≤sizeLine∧n=y.length:=e;subst e';exact len_str (by omega) ⟨.int _,H,I.tok _,⟨_,rfl⟩,q⟩
 | byt y=>
  obtain ⟨t,rfl⟩:=rx;obtain ⟨hy,e'⟩:y.size≤sizeLine∧n=y.size:=e;subst e';exact PySem.W.len_bytes (by omega) ⟨.int _,H,I.tok _,⟨_,rfl⟩,q⟩
 | ref p=>
  cases rx;have e':(∃ xs,SqL X.K H p xs∧n=xs.length)∨∃ xs,SqT X.K H p xs∧n=xs.length:=e;rcases e' with ⟨xs,hx,e'⟩ | ⟨xs,hx,e'⟩
  ·subst e';obtain ⟨its,r',pl,hz⟩:=I.list hx;have hlen:=r'.length;exact Calls.call_len_list pl.isList (by simp only [List.size_toArray];omega) ⟨.int xs.length,H,I.tok _,⟨_,by simp only [List.size_toArray];rw [hlen]⟩,q⟩
  ·subst e';obtain ⟨its,r',pl,hz⟩:=I.tuple hx;have hlen:=r'.length;exact len_tuple pl (by simp only [List.size_toArray];omega) ⟨.int xs.length,H,I.tok _,⟨_,by simp only [List.size_toArray];rw [hlen]⟩,q⟩
 | _=>exact (show False from e).elim
end
end L2
namespace L2
open PySem PySem.Spec PyProof.Rows
structure ObjM (h:Heap)(x dx C:Addr)(mA:Str→Option Value):Prop where
 obj:h.get? x=some (PySem.W.instObj C dx)
 ns:h.Ns1 dx mA
 ne:dx≠x
theorem lookIn_ns {h:Heap}{dx:Addr}{mA:Str→Option Value}(n:h.Ns1 dx mA):∃ od,h.get? dx=some od∧∀ name,PySem.W.lookIn name od=some (mA name):=by
 obtain ⟨o,es,ep,ho,hd,hk,_,hm⟩:=n;refine ⟨o,ho,fun name=>?_⟩;have e:=hm name;unfold nsFind findBy at e;rw [←Array.find?_toList] at e;unfold PySem.W.lookIn;rw [hd];dsimp only;split
 ·rename_i y q
  rw [q] at e;exact congrArg some e
 ·rename_i q
  rw [q] at e;have a:es.toList.any (·.refKey)=false:=by
   rw [List.any_eq_false];intro y hy;obtain ⟨z,t,hkey⟩:=hk y (Array.mem_toList_iff.mp hy);simp [DictEntry.refKey,hkey]
  have a':¬ es.toList.any (·.refKey)=true:=by rw [a];exact Bool.false_ne_true
  rw [if_neg a'];exact congrArg some e
theorem ObjM.look {h:Heap}{x dx C:Addr}{mA:Str→Option Value}(I:ObjM h x dx C mA):∃ od,PySem.W.InstAt h x (PySem.W.instObj C dx) C (some od)∧∀ name,PySem.W.lookIn name od=some (mA name):=
 let ⟨od,ho,hl⟩:=lookIn_ns I.ns
 ⟨od,⟨I.obj,rfl,rfl,ho⟩,hl⟩
section
variable {prog:Program}{w:World}{A:Around}{E:Value→Shared→Prop}{s:Shared}{K:PySem.W.Frag}{x dx C f:Addr}{mA:Str→Option Value}{name:Str}{v:Value}
theorem get_map {expr:Bool}{Q:Value→Shared→Prop}(X:K.In s.heap)(I:ObjM s.heap x dx C mA)(hg:PySem.W.plainGet K C name=true)(hh:PySem.W.hasDictIn K C=true)(ha:PySem.W.findIn K (.ref C) name=some none)(hv:mA name=some v)(hv':PySem.W.handedIn v=true)(h:Q v {s with toks:=s.toks+1}):
  wpAny (model prog w) A (getAttr (.ref x) name expr) Q E s:=by
 obtain ⟨od,J,hl⟩:=I.look;exact PySem.W.get_value X J (PySem.W.plainGet_of hg).1 (PySem.W.findObj_own hh ha rfl (by rw [hl,hv])) hv' h
theorem get_meth {pl:Sem Bool}{Q:Value×List Value→Shared→Prop}(X:K.In s.heap)(I:ObjM s.heap x dx C mA)(hg:PySem.W.plainGet K C name=true)(hf:PySem.W.findIn K (.ref C) name=some (some (.ref f)))(ht:PySem.W.isFn K (.ref f)=true)(hv:mA name=none)(h:Q (.ref f,[.ref x]) s):
  wpAny (model prog w) A (getMethod (.ref x) name pl) Q E s:=by
 obtain ⟨od,J,hl⟩:=I.look;exact PySem.W.method_fn X J (PySem.W.plainGet_of hg).1 (PySem.W.plainGet_of hg).2 hf (beq_iff_eq.mp ht) (by show (PySem.W.lookIn name od).map (·.isSome)=some false;rw [hl,hv];rfl) h
theorem set_map {ns:List Str}{Q:Unit→Shared→Prop}(X:K.In s.heap)(I:ObjM s.heap x dx C mA)(hs:PySem.W.findIn K (.ref C) "__setattr__"=some (some (.builtin "object.__setattr__")))(hp:PySem.W.plainOver K C=true)(ht:PySem.W.takerIn K C name=some none)(hh:PySem.W.hasDictIn K C=true)(hw:PySem.Within mA ns)(hsz:ns.length≤sizeLine)(h:∀ h',ObjM h' x dx C (fun y=>if y=name then some v else mA y)→Heap.SameBut dx s.heap h'→Q () {s with heap:=h',toks:=s.toks+2}):
  wpAny (model prog w) A (setAttr (.ref x) name v) Q E s:=by
 obtain ⟨od,J,hl⟩:=I.look;refine PySem.W.set_plain X J hs (PySem.W.osa_open (s:={s with toks:=s.toks+1}) (r:=none) X J hp ht fun b=>?_);obtain ⟨cd,hc,hd'⟩:=PySem.W.any_some hh;have hx:s.heap.get? x=some ⟨.ref C,some dx,.plain,#[]⟩:=I.obj;refine wpAny_bind (wpAny_pure (wpAny_bind (wpAny_bind (wpAny_loadPart hx (wpAny_bind (PySem.W.Looks.here (s:={s with toks:=s.toks+1}) (PySem.W.looks_clsIn X hc) ?_))))));rw [hd'];refine wpAny_pure (a:=some dx) (wpAny_bind (wpAny_pure (wpAny_bind ?_)));refine wpAny_nsSet1 (s:={s with toks:=s.toks+1}) I.ns fun h' hn2 hs2=>?_;obtain ⟨oD,esD,epD,hoD,hdD,hcD⟩:=hn2.count (PySem.Within.cons name v hw);refine wpAny_bind (wpAny_lookBehind hoD (by rw [hdD];exact pastItsLine_dict (Nat.le_trans hcD (by rw [List.length_cons];omega))) ?_)
 exact wpAny_pure (h _ ⟨(hs2.2 _ (Ne.symm I.ne)).trans I.obj,hn2,I.ne⟩ hs2)
theorem make_map {R:Result→Shared→Prop}{vs:List Value}{kw:List (Str×Value)}(X:K.In s.heap)(hm:PySem.W.makesIn K C=true)(hi:PySem.W.findIn K (.ref C) "__init__"=some (some (.ref f)))(hf:PySem.W.typeIn K (.ref f)=some (.type "function"))(h:codeAny (model prog w) (A.under (.builtin "type.__call__" ⟨.ref C::vs,kw⟩)) (.call (.ref f) ⟨.ref (s.heap.objs.size+1)::vs,kw⟩) (PySem.W.InitBack (s.heap.objs.size+1) R)
   {s with heap:=(s.heap.push PySem.W.emptyDict).push (PySem.W.instObj C s.heap.objs.size)}):
  codeAny (model prog w) A (.call (.ref C) ⟨vs,kw⟩) R s:=by
 obtain ⟨hh,g,d,t,os⟩:=s;exact PySem.W.make_core (PySem.W.makes_of X hm) (PySem.W.looks_findIn X hi) (fun self=>PySem.W.bind_fn X self hf) (.inl rfl) h
end
def putF (f:Str)(v:V):List (Str×V)→List (Str×V)
 | []=>[(f,v)]
 | (g,x)::r=>if g=f then (g,v)::r else (g,x)::putF f v r
theorem zlw (f g:Str)(v:V):∀ fs:List (Str×V),(putF f v fs).lookup g=if g=f then some v else fs.lookup g
 | []=>by
  show List.lookup g [(f,v)]=_;by_cases h:g=f
  ·have hb:(g==f)=true:=beq_iff_eq.mpr h;simp only [List.lookup,hb,if_pos h]
  ·have hb:(g==f)=false:=beq_eq_false_iff_ne.mpr h;simp only [List.lookup,hb,if_neg h]
 | (k,x)::r=>by
  have ih:=zlw f g v r;rw [show putF f v ((k,x)::r)=(if k=f then (k,v)::r else (k,x)::putF f v r) from rfl]
  by_cases hk:k=f
  ·rw [if_pos hk];by_cases h:g=k
   ·have hb:(g==k)=true:=beq_iff_eq.mpr h;simp only [List.lookup,hb,if_pos (h.trans hk)]
   ·have hb:(g==k)=false:=beq_eq_false_iff_ne.mpr h;simp only [List.lookup,hb,if_neg (fun e:g=f=>h (e.trans hk.symm))]
  ·rw [if_neg hk];by_cases h:g=k
   ·have hb:(g==k)=true:=beq_iff_eq.mpr h;simp only [List.lookup,hb,if_neg (fun e:g=f=>hk (h.symm.trans e))]
   ·have hb:(g==k)=false:=beq_eq_false_iff_ne.mpr h;simp only [List.lookup,hb];exact ih
theorem zl1 (f:Str)(v:V):∀ fs:List (Str×V),f∈(putF f v fs).map (·.1)∧∀ g,g∈fs.map (·.1)→g∈(putF f v fs).map (·.1)
 | []=>⟨by simp [putF],fun g h=>by simp at h⟩
 | (k,x)::r=>by
  obtain ⟨i1,i2⟩:=zl1 f v r;rw [show putF f v ((k,x)::r)=(if k=f then (k,v)::r else (k,x)::putF f v r) from rfl]
  by_cases hk:k=f
  ·rw [if_pos hk];subst hk;exact ⟨by simp,fun g h=>by simpa using h⟩
  ·rw [if_neg hk];refine ⟨?_,fun g h=>?_⟩
   ·rw [List.map_cons];exact List.mem_cons_of_mem _ i1
   ·rw [List.map_cons] at h ⊢;rcases List.mem_cons.mp h with e | e
    ·exact List.mem_cons.mpr (.inl e)
    ·exact List.mem_cons_of_mem _ (i2 g e)
theorem zly (f:Str)(v:V):∀ fs:List (Str×V),(putF f v fs).length≤fs.length+1
 | []=>by simp [putF]
 | (k,x)::r=>by
  have ih:=zly f v r;rw [show putF f v ((k,x)::r)=(if k=f then (k,v)::r else (k,x)::putF f v r) from rfl]
  by_cases hk:k=f
  ·rw [if_pos hk,List.length_cons,List.length_cons];omega
  ·rw [if_neg hk,List.length_cons,List.length_cons];omega
theorem RelO.zje {v:V}{o:Option Value}(r:RelO (some v) o):∃ u,o=some u∧RelV v u:=by
 cases o with
 | none=>exact (show False from r).elim
 | some u=>exact ⟨u,rfl,r⟩
theorem RelO.zjk {o:Option Value}(r:RelO none o):o=none:=by
 cases o with
 | none=>rfl
 | some u=>exact (show False from r).elim
theorem handed_of {v:V}{u:Value}(r:RelV v u):PySem.W.handedIn u=true:=by
 cases v with
 | non=>cases (show u=Value.none from r);rfl
 | bl b=>cases (show u=Value.bool b from r);rfl
 | int i=>obtain ⟨t,e⟩:=(show ∃ t,u=Value.int i t from r);cases e;rfl
 | str x=>obtain ⟨t,e⟩:=(show ∃ t,u=Value.str x t from r);cases e;rfl
 | byt b=>obtain ⟨t,e⟩:=(show ∃ t,u=Value.bytes b t from r);cases e;rfl
 | flt b=>obtain ⟨t,e⟩:=(show ∃ t,u=Value.float b t from r);cases e;rfl
 | ref a=>cases (show u=Value.ref a from r);rfl
 | ty n=>cases (show u=Value.type n from r);rfl
section
variable {P:Program}{w:World}{H H':Hp}{h h':Heap}{a C dx:Addr}{fs fs':List (Str×V)}
theorem zt4 (hok:HOk P w H h)(e:H a=some (.ins C dx fs)):∃ mA,ObjM h a dx C mA∧(∀ f,RelO (fs.lookup f) (mA f))∧PySem.Within mA (fs.map (·.1))∧fs.length≤1000∧H dx=some (.own a):=by
 obtain ⟨d,z,ne,ob,mA,n,r,q⟩:=(show ObjOk P w H h a (.ins C dx fs) from hok a _ e)
 exact ⟨mA,⟨ob,n,ne⟩,r,q,z,d⟩
end
structure Cls (K:PySem.W.Frag)(C:Addr):Prop where
 pg:PySem.W.plainGet K C Str.empty=true
 hd:PySem.W.hasDictIn K C=true
 po:PySem.W.plainOver K C=true
 sa:PySem.W.findIn K (.ref C) "__setattr__"=some (some (.builtin "object.__setattr__"))
theorem Cls.get {K:PySem.W.Frag}{C:Addr}(c:Cls K C)(f:Str):PySem.W.plainGet K C f=true:=c.pg
def NoAttr (K:PySem.W.Frag)(C:Addr)(f:Str):Prop:=PySem.W.findIn K (.ref C) f=some none
theorem NoAttr.taker {K:PySem.W.Frag}{C:Addr}{f:Str}(n:NoAttr K C f):PySem.W.takerIn K C f=some none:=by
 unfold PySem.W.takerIn;rw [show PySem.W.findIn K (.ref C) f=some none from n]
 rfl
structure Meth (K:PySem.W.Frag)(C:Addr)(m:Str)(f:Addr):Prop where
 at_:PySem.W.findIn K (.ref C) m=some (some (.ref f))
 fn:PySem.W.isFn K (.ref f)=true
 kp:PySem.W.keepIn K (.ref f)=true
section
variable {X:Cx}{pins:List (Addr×Obj)}{σ:St}{H:Hp}{s:Shared}{a C dx:Addr}{fs:List (Str×V)}{f:Str}{v:V}{A:Around}{E:Value→Shared→Prop}
theorem znv {b:Bool}{Q:Value→Shared→Prop}(I:Inv X pins σ H s)(e:H a=some (.ins C dx fs))(c:Cls X.K C)(n:NoAttr X.K C f)(l:fs.lookup f=some v)(h:∀ u s',Inv X pins σ H s'→RelV v u→Q u s'):wpAny (model X.prog X.w) A (getAttr (.ref a) f b) Q E s:=by
 obtain ⟨mA,O,r,_,_,_⟩:=zt4 I.hok e;obtain ⟨u,hu,ru⟩:=RelO.zje (v:=v) (o:=mA f) (by rw [←l];exact r f)
 exact get_map I.kIn O (c.get f) c.hd n hu (handed_of ru) (h u _ (I.tok _) ru)
theorem zjq {m:Str}{g:Addr}{pl:Sem Bool}{Q:Value×List Value→Shared→Prop}(I:Inv X pins σ H s)(e:H a=some (.ins C dx fs))(c:Cls X.K C)(k:Meth X.K C m g)(l:fs.lookup m=none)(h:Q (.ref g,[.ref a]) s):wpAny (model X.prog X.w) A (getMethod (.ref a) m pl) Q E s:=by
 obtain ⟨mA,O,r,_,_,_⟩:=zt4 I.hok e;have hn:mA m=none:=RelO.zjk (by rw [←l];exact r m)
 exact get_meth I.kIn O (c.get m) k.at_ k.fn hn h
theorem znj {y:V}{u:Value}{Q:Unit→Shared→Prop}(I:Inv X pins σ H s)(e:H a=some (.ins C dx fs))(c:Cls X.K C)(n:NoAttr X.K C f)(hl:fs.length<1000)(ry:RelV y u)(h:∀ s',Inv X pins σ (upd H a (.ins C dx (putF f y fs))) s'→Q () s'):wpAny (model X.prog X.w) A (setAttr (.ref a) f u) Q E s:=by
 obtain ⟨mA,O,r,wi,_,ho⟩:=zt4 I.hok e;have hz:(fs.map (·.1)).length≤sizeLine:=by rw [List.length_map,sizeLine_eq];omega
 refine set_map I.kIn O c.sa c.po n.taker c.hd wi hz fun h' O' sb=>h _ ?_;have hd:∃ o,h'.get? dx=some o:=let ⟨o,_,_,e',_⟩:=O'.ns;⟨o,e'⟩
 refine I.write (x:=a) (e:=dx) (by rw [e];exact True.intro) (.inr ho) (fun b q hb z=>(sb.2 b hb).trans z) hd ?_
 refine ⟨by rw [zac O.ne];exact ho,?_,O.ne,O'.obj,_,O'.ns,fun g=>?_,fun g hg=>?_⟩
 ·have:=zly f y fs;omega
 ·show RelO ((putF f y fs).lookup g) (if g=f then some u else mA g)
  rw [zlw];by_cases q:g=f
  ·rw [if_pos q,if_pos q];exact ry
  ·rw [if_neg q,if_neg q];exact r g
 ·by_cases q:g=f
  ·rw [q];exact (zl1 f y fs).1
  ·refine (zl1 f y fs).2 g (wi g fun z=>hg ?_);show (if g=f then some u else mA g)=none
   rw [if_neg q];exact z
theorem Inv.made (I:Inv X pins σ H s):Inv X pins σ (upd (upd H s.heap.objs.size (.own (s.heap.objs.size+1))) (s.heap.objs.size+1) (.ins C s.heap.objs.size []))
  {s with heap:=(s.heap.push PySem.W.emptyDict).push (PySem.W.instObj C s.heap.objs.size)}:=by
 have e1:(s.heap.push PySem.W.emptyDict).get? s.heap.objs.size=some PySem.W.emptyDict:=Heap.get?_push_size s.heap rfl;have e2:((s.heap.push PySem.W.emptyDict).push (PySem.W.instObj C s.heap.objs.size)).get? (s.heap.objs.size+1)=some (PySem.W.instObj C s.heap.objs.size):=by
  have:=Heap.get?_push_size (s.heap.push PySem.W.emptyDict) (o:=PySem.W.instObj C s.heap.objs.size) rfl;rwa [Heap.size_push] at this
 have e3:(s.heap.push PySem.W.emptyDict).Ns s.heap.objs.size (fun _=>none):=⟨PySem.W.emptyDict,#[],_,e1,rfl,(fun e he=>absurd he (by simp)),fun _=>rfl⟩
 have I1:=I.laid (a:=s.heap.objs.size) (o:=.own (s.heap.objs.size+1)) (h':=s.heap.push PySem.W.emptyDict) (t':=s.toks) (fun b u q=>Heap.get?_push_of_some _ q) (Nat.le_refl _) ⟨_,e1⟩;refine I1.laid (a:=s.heap.objs.size+1) (o:=.ins C s.heap.objs.size []) (t':=s.toks) (fun b u q=>Heap.get?_push_of_some _ q) (Nat.le_of_eq (Heap.size_push _ _)) ?_;have ne:s.heap.objs.size≠s.heap.objs.size+1:=Nat.ne_of_lt (Nat.lt_succ_self _);refine ⟨by rw [zac ne,zaa],Nat.zero_le _,ne,e2,fun _=>none,(Heap.Ns1.of_empty e3).at fun o q=>Heap.get?_push_of_some _ q,fun _=>True.intro,fun y hy=>absurd rfl hy⟩
theorem attr_of {prog:Program}{w:World}{env:Env}{e:Expr}{f:Str}{pos:Pos}{s:Shared}{Q:Value→Shared→Prop}(hb:attributeBase e f env (eval e env)=eval e env)(h:wpAny (model prog w) A (eval e env) (fun o s₁=>wpAny (model prog w) A (getAttr o f true) Q E s₁) E s):wpAny (model prog w) A (eval (.Attribute e f pos) env) Q E s:=
 Attribute_any_ h (by rw [arm_eval_Attribute,hb])
end
def tFld (K:PySem.W.Frag)(ta:TE)(f:Str):TE:=fun σ H Q=>ta σ H fun x H1=>∃ a C dx fs v,x=.ref a∧H1 a=some (.ins C dx fs)∧Cls K C∧NoAttr K C f∧fs.lookup f=some v∧Q v H1
def sFld (K:PySem.W.Frag)(ta tv:TE)(f:Str):TS:=fun D σ H=>tv σ H fun y H1=>ta σ H1 fun x H2=>∃ a C dx fs,x=.ref a∧H2 a=some (.ins C dx fs)∧Cls K C∧NoAttr K C f∧fs.length<1000∧
 D.nx σ (upd H2 a (.ins C dx (putF f y fs)))
def InOp (X:Cx)(op:Operator)(rd:V→V→Hp→VK→Prop):Prop:=
 ∀ (pins:List (Addr×Obj)) (s:Shared) (σ:St) (H:Hp) (x y:V) (u v:Value) (Q:VK),Inv X pins σ H s→RelV x u→RelV y v→rd x y H Q→wpAny (model X.prog X.w) X.A (inplaceOp op u v) (EP X pins σ Q) X.xe s
def sFldAug (K:PySem.W.Frag)(ta tv:TE)(rd:V→V→Hp→VK→Prop)(f:Str):TS:=fun D σ H=>ta σ H fun x H1=>∃ a C dx fs v,x=.ref a∧H1 a=some (.ins C dx fs)∧Cls K C∧NoAttr K C f∧fs.lookup f=some v∧
 tv σ H1 fun y H2=>rd v y H2 fun z H3=>∃ dx' fs',H3 a=some (.ins C dx' fs')∧fs'.length<1000∧D.nx σ (upd H3 a (.ins C dx' (putF f z fs')))
section
variable {X:Cx}{o e value:Expr}{f:Str}{pos pos' tpos:Pos}{ta tv:TE}
theorem zah (he:PE X e ta)(hb:attributeBase e f X.env (eval e X.env)=eval e X.env):PE X (.Attribute e f pos) (tFld X.K ta f):=by
 intro pins s σ H Q I h;refine attr_of hb (thn (he pins s σ H _ I h) fun u s1 ⟨x,H1,I1,rx,a,C,dx,fs,v,ex,ea,c,n,l,q⟩=>?_);subst ex;obtain rfl:u=Value.ref a:=rx;exact znv I1 ea c n l fun u' s2 I2 ru=>⟨v,H1,I2,ru,q⟩
theorem zbc (ha:PE X o ta)(hv:PE X value tv)(hs:swapsWith value (some (.Attribute o f pos')) pos.line X.env=pure false):PS X (.Assign [.Attribute o f pos'] value pos) (sFld X.K ta tv f):=by
 intro pins s σ H D I h;refine plainObj_wpAny_Assign_Attribute (thn (hv pins s σ H _ I h) fun u s1 ⟨y,H1,I1,ry,q⟩=>thn (ha pins s1 σ H1 _ I1 q) fun ov s2 ⟨x,H2,I2,rx,a,C,dx,fs,ex,ea,c,n,l,q2⟩=>?_) hs;subst ex;obtain rfl:ov=Value.ref a:=rx;exact znj I2 ea c n l ry fun s3 I3=>⟨σ,_,I3,q2⟩
theorem ps_fldaug {op:Operator}{rd:V→V→Hp→VK→Prop}(ha:PE X o ta)(hv:PE X value tv)(hop:InOp X op rd):PS X (.AugAssign (.Attribute o f tpos) op value pos) (sFldAug X.K ta tv rd f):=by
 intro pins s σ H D I h;refine wpAny_AugAssign_AttributeAny (thn (ha pins s σ H _ I h) fun ov s1 ⟨x,H1,I1,rx,a,C,dx,fs,v,ex,ea,c,n,l,q⟩=>?_);subst ex;obtain rfl:ov=Value.ref a:=rx;refine znv I1 ea c n l fun u s2 I2 ru=>thn (hv pins s2 σ H1 _ I2 q) fun w3 s3 ⟨y,H2,I3,ry,q3⟩=>thn (hop pins s3 σ H2 v y u w3 _ I3 ru ry q3) fun w4 s4 ⟨z,H3,I4,rz,dx',fs',ea',l',q4⟩=>?_;exact znj I4 ea' c n l' rz fun s5 I5=>⟨σ,_,I5,q4⟩
def rAdd:V→V→Hp→VK→Prop:=fun x y H Q=>∃ i j,x=.int i∧y=.int j∧Q (.int (i+j)) H
theorem in_add:InOp X .Add rAdd:=by
 rintro pins s σ H x y u v Q I rx ry ⟨i,j,rfl,rfl,q⟩;obtain ⟨t,rfl⟩:=(show ∃ t,u=Value.int i t from rx)
 obtain ⟨t',rfl⟩:=(show ∃ t',v=Value.int j t' from ry)
 exact PyProof.Rows.iadd_int ⟨.int (i+j),H,I.tok _,⟨_,rfl⟩,q⟩
theorem methcall_of {pl:Sem Bool}{m:Str}{apos:Pos}{args:List Expr}{pins:List (Addr×Obj)}{s:Shared}{σ:St}{H:Hp}{Q:Value→Shared→Prop}{te:TE}(he:PE X e te)(I:Inv X pins σ H s)(h:te σ H fun x H1=>∃ a C dx fs g,x=.ref a∧H1 a=some (.ins C dx fs)∧Cls X.K C∧Meth X.K C m g∧fs.lookup m=none∧
   ∀ s1,Inv X pins σ H1 s1→wpAny (model X.prog X.w) X.A (callWith pos (.ref g) [.ref a] (backTo pos (starEach args X.env)) (backToKw pos (keywordEach [] X.env))) Q X.xe s1)(ht:eval (.Call (.Attribute e m apos) args [] pos) X.env=(do
   let ov←eval e X.env
   standAt apos.atName
   let (f,first)←holding [ov] (getMethod ov m pl)
   callWith pos f first (backTo pos (starEach args X.env)) (backToKw pos (keywordEach [] X.env)))):
  wpAny (model X.prog X.w) X.A (eval (.Call (.Attribute e m apos) args [] pos) X.env) Q X.xe s:=by
 refine PySem.W.methodCall_KW (pl:=pl) (thn (he pins s σ H _ I h) fun u s1 ⟨x,H1,I1,rx,a,C,dx,fs,g,ex,ea,c,k,l,q⟩=>?_) ht;subst ex;obtain rfl:u=Value.ref a:=rx;exact zjq I1 ea c k l (q s1 I1)
end
section
variable {X:Cx}{pins:List (Addr×Obj)}{σ:St}{H:Hp}{s:Shared}{A:Around}{E:Value→Shared→Prop}{Q:Value→Shared→Prop}{c:Value}{b:Bool}
inductive TyOf (K:PySem.W.Frag)(H:Hp):V→Value→Prop where
 | non:TyOf K H .non (.type "NoneType")
 | bl (x:Bool):TyOf K H (.bl x) (.type "bool")
 | int (i:Int):TyOf K H (.int i) (.type "int")
 | str (x:Str):TyOf K H (.str x) (.type "str")
 | flt (x:UInt64):TyOf K H (.flt x) (.type "float")
 | lst {a:Addr} {xs:List V} (e:H a=some (.lst xs)):TyOf K H (.ref a) (.type "list")
 | frz {a:Addr} {o:Obj} {xs:List V} (e:H a=some (.frz o (.lst xs))):TyOf K H (.ref a) (.type "list")
 | tup {a:Addr} {xs:List V} (e:H a=some (.tup xs)):TyOf K H (.ref a) (.type "tuple")
 | dK {a:Addr} {kvs:List (Key×V)} (e:H a=some (.dK kvs)):TyOf K H (.ref a) (.type "dict")
 | dT {a:Addr} {kvs:List (List Key×V)} (e:H a=some (.dT kvs)):TyOf K H (.ref a) (.type "dict")
 | ins {a C dx:Addr} {fs:List (Str×V)} (e:H a=some (.ins C dx fs)) (cl:Cls K C) (ha:PySem.W.findIn K (.ref C) "__class__"=some (some (.builtin "object.__class__")))
   (hn:PySem.W.specialIn K (.builtin "object.__class__") "__get__"=some (some (.builtin "getset_descriptor.__get__"))) (htk:PySem.W.takesIn K (.builtin "object.__class__")=some true)
   (hm:PySem.W.mroIn K C (.type "object")=some true):TyOf K H (.ref a) (.ref C)
end
end L2
namespace L2
open PySem PySem.Spec PyProof.Rows
structure Room (k:Nat)(A:Around):Prop where
 hd:A.handled=none
 dp:A.depth+3*k+5<recursionLimit
 un:A.units+16*k+200<cLine
theorem Room.mono {j k:Nat}{A:Around}(r:Room k A)(h:j≤k):Room j A:=⟨r.hd,by have:=r.dp;omega,by have:=r.un;omega⟩
theorem Room.deeper {k:Nat}{A:Around}(r:Room (k+1) A)(env:Env):Room k (A.deeper env):=
 ⟨r.hd,by have:=r.dp;show A.depth+1+3*k+5<_;omega,by have:=r.un;show A.units+3+16*k+200<_;omega⟩
theorem Room.in1 {k:Nat}{A:Around}(r:Room (k+1) A):Room k A.in1:=
 ⟨r.hd,by have:=r.dp;show A.depth+3*k+5<_;omega,by have:=r.un;show A.units+1+16*k+200<_;omega⟩
theorem zwh {A:Around}{C:Addr}{us:List Value}{kw:List (Str×Value)}:(A.under (.builtin "type.__call__" ⟨.ref C::us,kw⟩)).depth=A.depth+1:=by
 first | rfl | simp [Around.under,Code.weight,Code.isCreation,Code.isGuard,Code.isCaller,Code.frames,Code.isFrame,guardIds]
theorem zwg {A:Around}{C:Addr}{us:List Value}{kw:List (Str×Value)}:(A.under (.builtin "type.__call__" ⟨.ref C::us,kw⟩)).units=A.units+1:=by
 first | rfl | simp [Around.under,Code.cUnits,Code.frames,Code.isFrame]
theorem Room.make {k:Nat}{A:Around}(r:Room (k+1) A)(C:Addr)(us:List Value)(kw:List (Str×Value)):Room k (A.under (.builtin "type.__call__" ⟨.ref C::us,kw⟩)):=
 ⟨r.hd,by have:=r.dp;rw [zwh];omega,by have:=r.un;rw [zwg];omega⟩
theorem Room.depth {k:Nat}{A:Around}(r:Room k A):A.depth<recursionLimit:=by have:=r.dp;omega
theorem Room.units {k:Nat}{A:Around}(r:Room k A):A.units+64<cLine:=by have:=r.un;omega
theorem Room.units0 {k:Nat}{A:Around}(r:Room k A):A.units<cLine:=by have:=r.un;omega
def tNil:TA:=fun _ H Q=>Q [] H
def tCons (ta:TE)(tr:TA):TA:=fun σ H Q=>ta σ H fun x H1=>tr σ H1 fun xs H2=>Q (x::xs) H2
section
variable {X:Cx}{e:Expr}{es:List Expr}{te:TE}{t:TA}{pos:Pos}
theorem zaf:PA X [] tNil:=fun _ _ _ _ H Q I h=>Calls.spliced_nil ⟨[],H,I,.nil,h⟩
theorem zab (ha:PE X e te)(hr:PA X es t)(hs:starEach (e::es) X.env=(false,eval e X.env)::starEach es X.env:=by rfl):PA X (e::es) (tCons te t):=by
 intro pos pins s σ H Q I h;rw [hs];show wpAny _ _ (spliced ((false,eval e X.env)::backTo pos (starEach es X.env))) _ _ s;refine Calls.spliced_cons (thn (ha pins s σ H _ I h) fun u s1 ⟨x,H1,I1,r1,q1⟩=>?_);exact thn (hr pos pins s1 σ H1 _ I1 q1) fun us s2 ⟨xs,H2,I2,r2,q2⟩=>⟨x::xs,H2,I2,.cons r1 r2,q2⟩
def tTup (t:TA):TE:=fun σ H Q=>t σ H fun xs H1=>xs.length≤sizeLine∧∀ p,H1 p=none→Q (.ref p) (upd H1 p (.tup xs))
def tLst (t:TA):TE:=fun σ H Q=>t σ H fun xs H1=>xs.length≤sizeLine∧∀ p,H1 p=none→Q (.ref p) (upd H1 p (.lst xs))
theorem zc7 {x1}(h:PA X es t):PE X (.Tuple es x1 pos) (tTup t):=by
 intro pins s σ H Q I hq;refine wpAny_Tuple_spliced (thn (h pos pins s σ H _ I hq) fun us s1 ⟨xs,H1,I1,r,z,q⟩=>⟨by rw [←r.length];exact z,?_⟩)
 have hf:H1 s1.heap.objs.size=none:=I1.hok.fresh (Nat.le_refl _);refine ⟨.ref s1.heap.objs.size,upd H1 s1.heap.objs.size (.tup xs),I1.laid (t':=s1.toks) (fun b u e=>Heap.get?_push_of_some _ e) (Nat.le_refl _) ?_,rfl,q _ hf⟩;exact ⟨z,us,r,⟨_,Heap.get?_push_size _ rfl,rfl,_,rfl⟩⟩
theorem zbd (h:PA X es t):PE X (.List es pos) (tLst t):=by
 intro pins s σ H Q I hq;refine wpAny_List_spliced (thn (h pos pins s σ H _ I hq) fun us s1 ⟨xs,H1,I1,r,z,q⟩=>⟨by rw [←r.length];exact z,?_⟩)
 have hf:H1 s1.heap.objs.size=none:=I1.hok.fresh (Nat.le_refl _);refine ⟨.ref s1.heap.objs.size,upd H1 s1.heap.objs.size (.lst xs),I1.laid (t':=s1.toks) (fun b u e=>Heap.get?_push_of_some _ e) (Nat.le_refl _) ?_,rfl,q _ hf⟩;exact ⟨z,us,0,r,Heap.get?_push_size _ rfl⟩
end
abbrev Sp:=List V→Hp→VK→XK→Prop
abbrev CXT:=List Env→Hp→Shared→XK→Value→Shared→Prop
structure Env0 (P:Program)(w:World)(K:PySem.W.Frag)(mg:Str→Option Value)(base:Heap)(A:Around)(outer:List Env)(s:Shared)(H:Hp):Prop where
 frames:A.frames=some outer
 mod:Mod K mg base
 bs:∀ b o,base.get? b=some o→s.heap.get? b=some o∧H b=none
 bsz:base.objs.size≤s.heap.objs.size
 funs:s.heap.FunFrames base outer
 frf:∀ b∈frs outer,H b=none
 hok:HOk P w H s.heap
 bare:AllBare s.gens
def CE (outer:List Env)(P:Program)(w:World)(H:Hp)(s:Shared)(Q:VK)(u:Value)(s':Shared):Prop:=
 ∃ v H',s'.os=s.os∧AllBare s'.gens∧Un (frs outer) [] H H' s.heap s'.heap∧HOk P w H' s'.heap∧RelV v u∧Q v H'
def CR (CX:CXT)(outer:List Env)(P:Program)(w:World)(H:Hp)(s:Shared)(Q:VK)(E:XK)(r:Result)(s':Shared):Prop:=
 match r with
 | .ok (.ret u)=>CE outer P w H s Q u s'
 | .ok _=>False
 | .error e=>CX outer H s E e s'
structure FnOk (P:Program)(w:World)(K:PySem.W.Frag)(mg:Str→Option Value)(base:Heap)(CX:CXT)(k:Nat)(f:Addr)(fd:FuncData)(ps:List Str)(sp:Sp):Prop where
 len:∀ vs H Q E,sp vs H Q E→vs.length=ps.length
 run:∀ (A:Around) (outer:List Env) (s:Shared) (H:Hp) (args:Args) (us:List Value) (vs:List V) (Q:VK) (E:XK),Room k A→Env0 P w K mg base A outer s H→BindsTo s fd args (ps.zip us)→Vals vs us→sp vs H Q E→
  codeAny (model P w) A (.call (.ref f) args) (CR CX outer P w H s Q E) s
theorem Env0.make {P:Program}{w:World}{K:PySem.W.Frag}{mg:Str→Option Value}{base:Heap}{A:Around}{outer:List Env}{s:Shared}{H:Hp}(e:Env0 P w K mg base A outer s H)(C:Addr)(us:List Value)(kw:List (Str×Value)):
  Env0 P w K mg base (A.under (.builtin "type.__call__" ⟨.ref C::us,kw⟩)) outer s H:=⟨by first | exact e.frames | (simpa [Around.under,Code.envs,Code.isFrame,pushEnvs] using e.frames),e.mod,e.bs,e.bsz,e.funs,e.frf,e.hok,e.bare⟩
section
variable {X:Cx}{pins:List (Addr×Obj)}{σ:St}{H:Hp}{s s':Shared}
theorem Inv.env0 (I:Inv X pins σ H s):Env0 X.prog X.w X.K X.mg X.base X.A X.stack s H:=
 ⟨I.ok.frames,I.ok.mod,I.bs,Nat.le_trans I.ok.bsz I.sz,I.stack,I.stkFree,I.hok,I.bare⟩
theorem Inv.after {Q:VK}{u:Value}(I:Inv X pins σ H s)(h:CE X.stack X.prog X.w H s Q u s'):EP X pins σ Q u s':=by
 obtain ⟨v,H',os,bare,un,hok,r,q⟩:=h;obtain ⟨hh,g,d,t,os'⟩:=s';obtain rfl:os'=s.os:=os;exact ⟨v,H',I.call (h':=hh) (g':=g) (d':=d) (t':=t) (ch:=[]) un hok bare (fun b z=>absurd z (by simp)),r,q⟩
end
def tCall (sp:Sp)(dvs:List V)(E:XK)(t:TA):TE:=fun σ H Q=>t σ H fun vs H1=>sp (vs++dvs) H1 Q E
def tMeth (C:Addr)(m:Str)(sp:Sp)(dvs:List V)(E:XK)(ta:TE)(t:TA):TE:=fun σ H Q=>ta σ H fun x H1=>∃ a dx fs,x=.ref a∧H1 a=some (.ins C dx fs)∧fs.lookup m=none∧
 t σ H1 fun vs H2=>sp (x::(vs++dvs)) H2 Q E
def tMake (C:Addr)(sp:Sp)(dvs:List V)(E:XK)(t:TA):TE:=fun σ H Q=>t σ H fun vs H1=>∀ x dx,H1 x=none→H1 dx=none→dx≠x→
 sp (.ref x::(vs++dvs)) (upd (upd H1 dx (.own x)) x (.ins C dx [])) (fun v H2=>v=.non∧Q (.ref x) H2) E
def Binds (K:PySem.W.Frag)(fd:FuncData)(ps:List Str)(ds:List Value):Prop:=
 ∀ (s:Shared) (us:List Value),K.In s.heap→(us++ds).length=ps.length→BindsTo s fd ⟨us,[]⟩ (ps.zip (us++ds))
theorem Binds.all {K:PySem.W.Frag}{fd:FuncData}{ps:List Str}(h:∀ us:List Value,us.length=ps.length→bindArgs fd ⟨us,[]⟩=pure (ps.zip us)):Binds K fd ps []:=fun s us _ hl=>by
 rw [List.append_nil] at hl ⊢;exact .of_eq (h us hl)
def Passes (CX:CXT)(X:Cx)(E:XK):Prop:=∀ (pins:List (Addr×Obj)) (σ:St) (H:Hp) (s:Shared) (e:Value) (s':Shared),Inv X pins σ H s→CX X.stack H s E e s'→X.xe e s'
section
variable {X:Cx}{CX:CXT}{k:Nat}{f C:Addr}{fd:FuncData}{ps:List Str}{sp:Sp}{dvs:List V}{ds:List Value}{E:XK}{x m:Str}{p pos apos:Pos}{e o:Expr}{es:List Expr}{ta:TE}{t:TA}
theorem zut {pins:List (Addr×Obj)}{σ:St}{H:Hp}{s:Shared}{Q:VK}{us:List Value}{vs:List V}(F:FnOk X.prog X.w X.K X.mg X.base CX k f fd ps sp)(hr:Room k X.A)(hb:Binds X.K fd ps ds)(hd:Vals dvs ds)(hx:Passes CX X E)(I:Inv X pins σ H s)(r:Vals vs us)(h:sp (vs++dvs) H Q E):wpAny (model X.prog X.w) X.A (call (.ref f) us) (EP X pins σ Q) X.xe s:=by
 have r2:Vals (vs++dvs) (us++ds):=r.append hd;have hl:(us++ds).length=ps.length:=by rw [←r2.length];exact F.len _ _ _ _ h
 refine wpAny_call (codeAny_mono (F.run X.A X.stack s H ⟨us,[]⟩ (us++ds) (vs++dvs) Q E hr I.env0 (hb s us I.kIn hl) r2 h) fun r s' hq=>?_);cases r with
 | error e=>exact hx pins σ H s e s' I hq
 | ok fl=>
  cases fl with
  | ret u=>exact I.after hq
  | next=>exact False.elim hq
  | brk=>exact False.elim hq
  | cont=>exact False.elim hq
theorem pe_call (F:FnOk X.prog X.w X.K X.mg X.base CX k f fd ps sp)(hr:Room k X.A)(hg:Gl X x)(hm:X.mg x=some (.ref f))(hk:PySem.W.keepIn X.K (.ref f)=true)(hb:Binds X.K fd ps ds)(hd:Vals dvs ds)(hx:Passes CX X E)(ha:PA X (e::es) t)(hdb:(x==("__debug__":Str))=false:=by decide)(he:starEach (e::es) X.env=(false,eval e X.env)::starEach es X.env:=by rfl)(hpl:(backTo pos (starEach es X.env)).any (·.1)=false:=by rfl):
  PE X (.Call (.Name x p) (e::es) [] pos) (tCall sp dvs E t):=by
 intro pins s σ H Q I h;refine wpAny_Call_Name_kw (zlz I hg hm ?_ hdb);refine PySem.W.callWith_K (h₀:=X.base) I.ok.mod.kin hk (thn (ha pos pins s σ H _ I h) fun us s1 ⟨vs,H1,I1,r,q⟩=>⟨I1.kIn,?_⟩) he hpl;exact zut F hr hb hd hx I1 r q
theorem pe_meth {pl:Sem Bool}(he:PE X o ta)(c:Cls X.K C)(hm:Meth X.K C m f)(F:FnOk X.prog X.w X.K X.mg X.base CX k f fd ps sp)(hr:Room k X.A)(hb:Binds X.K fd ps ds)(hd:Vals dvs ds)(hx:Passes CX X E)(ha:PA X (e::es) t)(hst:starEach (e::es) X.env=(false,eval e X.env)::starEach es X.env:=by rfl)(hpl:(backTo pos (starEach es X.env)).any (·.1)=false:=by rfl)(ht:eval (.Call (.Attribute o m apos) (e::es) [] pos) X.env=(do
   let ov←eval o X.env
   standAt apos.atName
   let (f,first)←holding [ov] (getMethod ov m pl)
   callWith pos f first (backTo pos (starEach (e::es) X.env)) (backToKw pos (keywordEach [] X.env))):=by rfl):
  PE X (.Call (.Attribute o m apos) (e::es) [] pos) (tMeth C m sp dvs E ta t):=by
 intro pins s σ H Q I h;refine PySem.W.methodCall_KW (pl:=pl) (thn (he pins s σ H _ I h) fun u s1 ⟨x,H1,I1,rx,a,dx,fs,ex,ea,l,q⟩=>?_) ht;subst ex;obtain rfl:u=Value.ref a:=rx;refine zjq I1 ea c hm l ?_;refine PySem.W.callWith_K (first:=[.ref a]) (h₀:=X.base) I.ok.mod.kin hm.kp (thn (ha pos pins s1 σ H1 _ I1 q) fun us s2 ⟨vs,H2,I2,r,q2⟩=>⟨I2.kIn,?_⟩) hst hpl
 exact zut (us:=.ref a::us) (vs:=.ref a::vs) F hr hb hd hx I2 (.cons rfl r) q2
theorem pe_meth0 {pl:Sem Bool}(he:PE X o ta)(c:Cls X.K C)(hm:Meth X.K C m f)(F:FnOk X.prog X.w X.K X.mg X.base CX k f fd ps sp)(hr:Room k X.A)(hb:Binds X.K fd ps ds)(hd:Vals dvs ds)(hx:Passes CX X E)(ht:eval (.Call (.Attribute o m apos) [] [] pos) X.env=(do
   let ov←eval o X.env
   standAt apos.atName
   let (f,first)←holding [ov] (getMethod ov m pl)
   callWith pos f first (backTo pos (starEach [] X.env)) (backToKw pos (keywordEach [] X.env))):=by rfl):
  PE X (.Call (.Attribute o m apos) [] [] pos) (tMeth C m sp dvs E ta tNil):=by
 intro pins s σ H Q I h;refine PySem.W.methodCall_KW (pl:=pl) (thn (he pins s σ H _ I h) fun u s1 ⟨x,H1,I1,rx,a,dx,fs,ex,ea,l,q⟩=>?_) ht;subst ex;obtain rfl:u=Value.ref a:=rx;refine zjq I1 ea c hm l ?_;exact PySem.W.callWith_K0 (first:=[.ref a]) I1.kIn hm.kp (zut (us:=[.ref a]) (vs:=[.ref a]) F hr hb hd hx I1 (.cons rfl .nil) q)
structure Mk (K:PySem.W.Frag)(C f:Addr):Prop where
 makes:PySem.W.makesIn K C=true
 init:PySem.W.findIn K (.ref C) "__init__"=some (some (.ref f))
 fn:PySem.W.isFn K (.ref f)=true
 kp:PySem.W.keepIn K (.ref C)=true
theorem zus {pins:List (Addr×Obj)}{σ:St}{H:Hp}{s:Shared}{Q:VK}{us:List Value}{vs:List V}(M:Mk X.K C f)(F:FnOk X.prog X.w X.K X.mg X.base CX k f fd ps sp)(hr:Room (k+1) X.A)(hb:Binds X.K fd ps ds)(hd:Vals dvs ds)(hx:Passes CX X E)(I:Inv X pins σ H s)(r:Vals vs us)(h:∀ x dx,H x=none→H dx=none→dx≠x→sp (.ref x::(vs++dvs)) (upd (upd H dx (.own x)) x (.ins C dx [])) (fun v H2=>v=.non∧Q (.ref x) H2) E):
  wpAny (model X.prog X.w) X.A (call (.ref C) us) (EP X pins σ Q) X.xe s:=by
 have hq:=h (s.heap.objs.size+1) s.heap.objs.size (I.hok.fresh (Nat.le_succ _)) (I.hok.fresh (Nat.le_refl _)) (Nat.ne_of_lt (Nat.lt_succ_self _));have I2:=Inv.made (C:=C) I;have r2:Vals (V.ref (s.heap.objs.size+1)::(vs++dvs)) (Value.ref (s.heap.objs.size+1)::(us++ds)):=.cons rfl (r.append hd);have hl:(Value.ref (s.heap.objs.size+1)::us++ds).length=ps.length:=by
  have e:=r2.length;rw [F.len _ _ _ _ hq] at e;exact e.symm
 refine wpAny_call (make_map (f:=f) I.kIn M.makes M.init (beq_iff_eq.mp M.fn) (codeAny_mono (F.run _ X.stack _ _ ⟨Value.ref (s.heap.objs.size+1)::us,[]⟩ (Value.ref (s.heap.objs.size+1)::(us++ds)) _ _ E (hr.make C us [])
  (I2.env0.make C us []) (hb _ (Value.ref (s.heap.objs.size+1)::us) I2.kIn hl) r2 hq) fun r s' hq'=>?_))
 cases r with
 | error e=>exact hx pins σ _ _ e s' I2 hq'
 | ok fl=>
  cases fl with
  | ret u=>
   obtain ⟨v,H',I3,rv,ev,q3⟩:=I2.after hq';subst ev;exact ⟨rv,⟨V.ref (s.heap.objs.size+1),H',I3,rfl,q3⟩⟩
  | next=>exact False.elim hq'
  | brk=>exact False.elim hq'
  | cont=>exact False.elim hq'
theorem pe_make (M:Mk X.K C f)(F:FnOk X.prog X.w X.K X.mg X.base CX k f fd ps sp)(hr:Room (k+1) X.A)(hg:Gl X x)(hm:X.mg x=some (.ref C))(hb:Binds X.K fd ps ds)(hd:Vals dvs ds)(hx:Passes CX X E)(ha:PA X (e::es) t)(hdb:(x==("__debug__":Str))=false:=by decide)(he:starEach (e::es) X.env=(false,eval e X.env)::starEach es X.env:=by rfl)(hpl:(backTo pos (starEach es X.env)).any (·.1)=false:=by rfl):
  PE X (.Call (.Name x p) (e::es) [] pos) (tMake C sp dvs E t):=by
 intro pins s σ H Q I h;refine wpAny_Call_Name_kw (zlz I hg hm ?_ hdb);refine PySem.W.callWith_K (h₀:=X.base) I.ok.mod.kin M.kp (thn (ha pos pins s σ H _ I h) fun us s1 ⟨vs,H1,I1,r,q⟩=>⟨I1.kIn,?_⟩) he hpl;exact zus M F hr hb hd hx I1 r q
theorem pe_make0 (M:Mk X.K C f)(F:FnOk X.prog X.w X.K X.mg X.base CX k f fd ps sp)(hr:Room (k+1) X.A)(hg:Gl X x)(hm:X.mg x=some (.ref C))(hb:Binds X.K fd ps ds)(hd:Vals dvs ds)(hx:Passes CX X E)(hdb:(x==("__debug__":Str))=false:=by decide):PE X (.Call (.Name x p) [] [] pos) (tMake C sp dvs E tNil):=by
 intro pins s σ H Q I h;refine wpAny_Call_Name_kw (zlz I hg hm ?_ hdb);exact PySem.W.callWith_K0 I.kIn M.kp (zus (us:=[]) M F hr hb hd hx I .nil h)
end
def PK (X:Cx)(kws:List Keyword)(t:TA):Prop:=
 ∀ (pos:Pos) (pins:List (Addr×Obj)) (s:Shared) (σ:St) (H:Hp) (Q:List V→Hp→Prop),Inv X pins σ H s→t σ H Q→wpAny (model X.prog X.w) X.A (evalAll ((backToKw pos (keywordEach kws X.env)).map (·.2))) (AP X pins σ Q) X.xe s
section
variable {X:Cx}{CX:CXT}{k:Nat}{f C:Addr}{fd:FuncData}{ps ks:List Str}{sp:Sp}{E:XK}{x m:Str}{p pos apos kpos:Pos}{e o:Expr}{es:List Expr}{kws:List Keyword}{te ta:TE}{t tk:TA}{nm:Option Str}
theorem pk_nil:PK X [] tNil:=fun _ _ _ _ H Q I h=>wpAny_evalAll_nil ⟨[],H,I,.nil,h⟩
theorem pk_cons (ha:PE X e te)(hr:PK X kws t):PK X (⟨nm,e,kpos⟩::kws) (tCons te t):=by
 intro pos pins s σ H Q I h;show wpAny _ _ (evalAll ((do let v←eval e X.env;standAt pos;pure v)::(backToKw pos (keywordEach kws X.env)).map (·.2))) _ _ s
 refine wpAny_evalAll_cons (wpAny_bind (thn (ha pins s σ H _ I h) fun u s1 ⟨x,H1,I1,r1,q1⟩=>wpAny_bind (wpAny_standAt (wpAny_pure ?_))));exact thn (hr pos pins s1 σ H1 _ I1 q1) fun us s2 ⟨xs,H2,I2,r2,q2⟩=>⟨x::xs,H2,I2,.cons r1 r2,q2⟩
structure KBinds (K:PySem.W.Frag)(fd:FuncData)(ps ks:List Str)(g:List Value→List Value→List Value)(gV:List V→List V→List V):Prop where
 to:∀ (s:Shared) (us ws:List Value),K.In s.heap→(g us ws).length=ps.length→BindsTo s fd ⟨us,ks.zip ws⟩ (ps.zip (g us ws))
 rel:∀ {vs:List V} {us:List Value} {zs:List V} {ws:List Value},Vals vs us→Vals zs ws→Vals (gV vs zs) (g us ws)
variable {g:List Value→List Value→List Value}{gV:List V→List V→List V}
end
structure FnScope (N P:List Str)(sc:Scope):Prop where
 kind:sc.kind=.function
 co:sc.isCoroutine=false
 gen:sc.isGenerator=false
 nd:N.Nodup
 pre:N.take P.length=P
 par:∀ x∈P,sc.names.lookup x=some .local∨sc.names.lookup x=some .cell
 nofree:∀ y∈sc.names,y.2≠.free
theorem zsh {kindOf:Str→Option NameKind}{x:Str}:∀ {binds:List (Str×Value)} {m:Str→Option Value},(∀ v,(x,v)∉binds)→bindL kindOf binds m x=m x
 | [],_,_=>rfl
 | (n,v)::r,m,h=>by
  unfold bindL;rw [zsh fun w hw=>h w (List.mem_cons_of_mem _ hw)];split
  ·have:x≠n:=by rintro rfl;exact h v List.mem_cons_self
   simp [this]
  ·rfl
theorem zsj {kindOf:Str→Option NameKind}{x:Str}:∀ {binds:List (Str×Value)} {m:Str→Option Value},(∀ v,(x,v)∉binds)→bindC kindOf binds m x=m x
 | [],_,_=>rfl
 | (n,v)::r,m,h=>by
  unfold bindC;rw [zsj fun w hw=>h w (List.mem_cons_of_mem _ hw)];split
  ·rfl
  ·have:x≠n:=by rintro rfl;exact h v List.mem_cons_self
   simp [this]
theorem zsi {kindOf:Str→Option NameKind}{x:Str}{v:Value}:∀ {P:List Str} {vs:List Value} {i:Nat} {m:Str→Option Value},P.Nodup→P[i]? = some x→vs[i]? = some v→kindOf x=some .local→
  bindL kindOf (P.zip vs) m x=some v
 | [],_,_,_,_,h,_,_=>by simp at h
 | _::_,[],_,_,_,_,h,_=>by simp at h
 | p::P,w::vs,0,m,nd,h1,h2,hk=>by
  simp at h1 h2;subst h1;subst h2;show bindL kindOf ((p,w)::P.zip vs) m p=_;unfold bindL;rw [zsh fun v hv=>(List.nodup_cons.mp nd).1 (List.of_mem_zip hv).1,if_pos hk];simp
 | p::P,w::vs,i+1,m,nd,h1,h2,hk=>by
  show bindL kindOf ((p,w)::P.zip vs) m x=_;unfold bindL;exact zsi (i:=i) (List.nodup_cons.mp nd).2 (by simpa using h1) (by simpa using h2) hk
theorem zsk {kindOf:Str→Option NameKind}{x:Str}{v:Value}:∀ {P:List Str} {vs:List Value} {i:Nat} {m:Str→Option Value},P.Nodup→P[i]? = some x→vs[i]? = some v→kindOf x≠some .local→
  bindC kindOf (P.zip vs) m x=some v
 | [],_,_,_,_,h,_,_=>by simp at h
 | _::_,[],_,_,_,_,h,_=>by simp at h
 | p::P,w::vs,0,m,nd,h1,h2,hk=>by
  simp at h1 h2;subst h1;subst h2;show bindC kindOf ((p,w)::P.zip vs) m p=_;unfold bindC;rw [zsj fun v hv=>(List.nodup_cons.mp nd).1 (List.of_mem_zip hv).1,if_neg hk];simp
 | p::P,w::vs,i+1,m,nd,h1,h2,hk=>by
  show bindC kindOf ((p,w)::P.zip vs) m x=_;unfold bindC;exact zsk (i:=i) (List.nodup_cons.mp nd).2 (by simpa using h1) (by simpa using h2) hk
def start (N:List Str)(vs:List V):St:=vs.map some++List.replicate (N.length - vs.length) none
def cxOf (CX:CXT)(P:Program)(w:World)(K:PySem.W.Frag)(mg:Str→Option Value)(base:Heap)(N:List Str)(qual:Str)(scope:Scope)(f:Addr)(cd:Value)(A:Around)(outer:List Env)(s:Shared)(H:Hp)(E:XK):Cx where
 prog:=P
 w:=w
 K:=K
 mg:=mg
 base:=base
 A:=A.deeper (envOfC qual scope s.heap.objs.size f cd)
 N:=N
 s_0:=s
 H_0:=H
 env:=envOfC qual scope s.heap.objs.size f cd
 outer:=outer
 stack:=envOfC qual scope s.heap.objs.size f cd::outer
 ex:=[]
 calm:=true
 fn:=fun _=>true
 pn:=[]
 xe:=fun e s'=>wpAny (model P w) (A.deeper (envOfC qual scope s.heap.objs.size f cd)) (leaving (envOfC qual scope s.heap.objs.size f cd) e) (fun _ s''=>CX outer H s E e s'') (fun e' s''=>CX outer H s E e' s'') s'
theorem zvj {sc:Scope}{n:Nat}{x:Str}(h:sc.names.lookup x=some .cell):∃ c,(cellsFrom n sc.names []).lookup x=some c:=by
 have q:=PySem.W.cellsFrom_some sc.names n [] (.inl h);exact Option.isSome_iff_exists.mp q
theorem inv_start {CX:CXT}{P:Program}{w:World}{K:PySem.W.Frag}{mg:Str→Option Value}{base:Heap}{N ps:List Str}{qual:Str}{scope:Scope}{f:Addr}{cd:Value}{A:Around}{outer:List Env}{s s1:Shared}{H:Hp}{E:XK}{us:List Value}{vs:List V}(S:FnScope N ps scope)(hd:A.handled=none)(e0:Env0 P w K mg base A outer s H)(hl:vs.length=ps.length)(r:Vals vs us)(x:InCallC s s.heap.objs.size (bindL (envOfC qual scope s.heap.objs.size f cd).kindOf (ps.zip us) fun _=>none) (cellsFrom (s.heap.objs.size+1) scope.names []) (bindC (envOfC qual scope s.heap.objs.size f cd).kindOf (ps.zip us) fun _=>none) s1):
  Inv (cxOf CX P w K mg base N qual scope f cd A outer s H E) [] (start N vs) H s1:=by
 have hpl:ps.length≤N.length:=by have:=congrArg List.length S.pre;rw [List.length_take] at this;omega
 obtain ⟨h1,tk,rfl,hk⟩:=x.done;have noA:∀ b:Addr,b∉(cxOf CX P w K mg base N qual scope f cd A outer s H E).ex:=fun b z=>absurd (show b∈([]:List Addr) from z) (by simp)
 refine ⟨⟨e0.mod,S.kind,rfl,rfl,Nat.le_refl _,fun y z c h1 h2=>?_,fun y hy=>?_,fun y c _ h=>?_,fun _=>hd,Around.frames_deeper e0.frames,.inr ⟨rfl,rfl⟩,fun b z=>absurd z (noA b),e0.bs,e0.bsz,fun b _ _=>noA b,fun b z=>absurd z (noA b),e0.funs,e0.frf⟩,
  rfl,e0.bare,Un.kept hk,⟨_,x.toInCall.ns,fun i y v h1 h2 h3=>?_⟩,fun y c h=>⟨_,x.cell y c h⟩,e0.hok.fresh (Nat.le_refl _),fun y c h=>?_,fun p hp=>absurd (show p∈([]:List (Addr×Obj)) from hp) (by simp),e0.hok.kept hk,?_⟩
 ·exact name_of_addr x.apart (PySem.mem_of_lookup h1) (PySem.mem_of_lookup h2)
 ·have hy:scope.names.lookup y=some .cell∨scope.names.lookup y=some .free:=hy;rcases hy with hy | hy
  ·exact zvj hy
  ·exact absurd rfl (S.nofree _ (PySem.mem_of_lookup hy))
 ·exact Nat.le_of_lt (x.above y c (PySem.mem_of_lookup h))
 ·have hi:i<vs.length:=by
   unfold start at h2;by_cases hi:i<vs.length
   ·exact hi
   ·rw [List.getElem?_append_right (by simpa using hi)] at h2
    rw [List.getElem?_replicate] at h2;split at h2 <;> cases h2
  have ha:vs[i]? = some v:=by
   unfold start at h2;rw [List.getElem?_append_left (by simpa using hi),List.getElem?_map] at h2
   cases e:vs[i]? with
   | none=>rw [e] at h2;cases h2
   | some a=>rw [e] at h2;cases h2;rfl
  obtain ⟨u,hu,rv⟩:=r.get ha;have hp:ps[i]? = some y:=by
   rw [←S.pre,List.getElem?_take_of_lt (by omega)];exact h1
  have ndP:ps.Nodup:=by rw [←S.pre];exact S.nd.sublist (List.take_sublist _ _)
  refine ⟨u,rv,?_⟩;rcases S.par y (List.mem_of_getElem? hp) with k | k
  ·exact .inl ⟨k,zsi ndP hp hu k⟩
  ·obtain ⟨c,e⟩:=zvj (n:=s.heap.objs.size+1) k;refine .inr ⟨.inl k,c,e,?_⟩;have q:=x.cell y c e;rw [zsk ndP hp hu (by show scope.names.lookup y≠_;rw [k];decide)] at q
   exact q
 ·exact e0.hok.fresh (Nat.le_of_lt (x.above y c (PySem.mem_of_lookup h)))
 ·unfold start;show _=N.length;rw [List.length_append,List.length_map,List.length_replicate];omega
theorem fn_of {CX:CXT}{P:Program}{w:World}{K:PySem.W.Frag}{mg:Str→Option Value}{base:Heap}{k:Nat}{f:Addr}{name qual:Str}{params:Arguments}{body:List Stmt}{scope:Scope}{dV kV doc pm cdv ct oc:Value}{an od:Option Addr}{osl:Array (Option Value)}{N ps:List Str}{sp:Sp}(lk:K.lookup f=some ⟨oc,od,.func (PySem.W.fnOf name qual params body scope dV kV doc pm an cdv ct),osl⟩)(hcd:PySem.W.codeIn K cdv qual=true)(S:FnScope N ps scope)(len:∀ vs H Q E,sp vs H Q E→vs.length=ps.length)(hbody:∀ (A:Around) (outer:List Env) (s:Shared) (H:Hp) (vs:List V) (Q:VK) (E:XK),Room k (A.deeper (envOfC qual scope s.heap.objs.size f cdv))→sp vs H Q E→
   ∃ t,PSs (cxOf CX P w K mg base N qual scope f cdv A outer s H E) body t∧t {nx:=fun _ H'=>Q .non H',rt:=Q} (start N vs) H):
  FnOk P w K mg base CX (k+1) f (PySem.W.fnOf name qual params body scope dV kV doc pm an cdv ct) ps sp:=by
 refine ⟨len,fun A outer s H args us vs Q E hr e0 hb r hsp=>?_⟩;have hl:=len _ _ _ _ hsp;have KX:K.In s.heap:=e0.mod.kin.keeps fun b o e=>(e0.bs b o e).1;have lim:s.heap.NoLimit:=e0.mod.nolimit.keeps fun b o e=>(e0.bs b o e).1;have hkind:∀ y∈ps.zip us,scope.names.lookup y.1=some .local∨(scope.names.lookup y.1=some .cell∧((cellsFrom (s.heap.objs.size+1) scope.names []).lookup y.1).isSome=true):=fun ⟨n,v⟩ hy=>by
  rcases S.par n (List.of_mem_zip hy).1 with q | q
  ·exact .inl q
  ·exact .inr ⟨q,PySem.W.cellsFrom_some _ _ _ (.inl q)⟩
 refine codeAny_call_function hr.depth (KX _ _ lk) rfl S.co S.gen rfl (PySem.W.codeRec_of KX hcd) (hb _ _ _ _ ?_);refine wpAny_newFunctionEnv_cells S.kind hkind fun env he s1 x=>?_;subst he;refine ⟨lim.keeps x.toInCall.keep,codeAny_func ?_⟩;obtain ⟨t,ht,hq⟩:=hbody A outer s H vs Q E (hr.deeper _) hsp;have I:Inv (cxOf CX P w K mg base N qual scope f cdv A outer s H E) [] (start N vs) H s1:=inv_start S hr.hd e0 hl r x;refine wpAny_mono (ht [] s1 (start N vs) H _ I hq) (fun fl s' hs=>?_) fun e s' hs=>hs;have fin:∀ {σ':St} {H':Hp} {v:V} {u:Value},Inv (cxOf CX P w K mg base N qual scope f cdv A outer s H E) [] σ' H' s'→RelV v u→Q v H'→CE outer P w H s Q u s':=
  fun {σ' H' v u} J rv q=>⟨v,H',J.os,J.bare,J.base,J.hok,rv,q⟩
 cases fl with
 | ret u=>
  obtain ⟨v,σ',H',J,rv,q⟩:=hs;exact fin J rv q
 | next=>
  obtain ⟨σ',H',J,q⟩:=hs;exact fin (v:=V.non) (u:=Value.none) J rfl q
 | brk=>
  obtain ⟨_,_,_,q⟩:=hs;exact False.elim q
 | cont=>
  obtain ⟨_,_,_,q⟩:=hs;exact False.elim q
end L2
namespace L2
open PySem PySem.Spec PyProof.Rows
section
variable {X:Cx}{x:Str}{p pos:Pos}{e:Expr}{es:List Expr}{t:TA}{id T:String}{r:List V→Hp→VK→Prop}
def tCB (r:List V→Hp→VK→Prop)(t:TA):TE:=fun σ H Q=>t σ H fun vs H1=>r vs H1 Q
theorem zao (hc:CallR X (.builtin id) r)(hg:Gl X x)(hm:X.mg x=none)(hv:bootBuiltins x=some (.builtin id))(ha:PA X (e::es) t)(hn:x≠"__name__":=by decide)(hdb:(x==("__debug__":Str))=false:=by decide)(he:starEach (e::es) X.env=(false,eval e X.env)::starEach es X.env:=by rfl)(hpl:(backTo pos (starEach es X.env)).any (·.1)=false:=by rfl):PE X (.Call (.Name x p) (e::es) [] pos) (tCB r t):=by
 intro pins s σ H Q I h;refine wpAny_Call_Name_kw (zj6 I hg hm hv ?_ hn hdb);exact PyProof.Rows.callWith_builtin1 (thn (ha pos pins s σ H _ I h) fun us s1 ⟨vs,H1,I1,r1,q1⟩=>hc pins s1 σ H1 vs us Q I1 r1 q1) he hpl
theorem zlr (hc:CallR X (.type T) r)(hg:Gl X x)(hm:X.mg x=none)(hv:bootBuiltins x=some (.type T))(ha:PA X (e::es) t)(hn:x≠"__name__":=by decide)(hdb:(x==("__debug__":Str))=false:=by decide)(he:starEach (e::es) X.env=(false,eval e X.env)::starEach es X.env:=by rfl)(hpl:(backTo pos (starEach es X.env)).any (·.1)=false:=by rfl):PE X (.Call (.Name x p) (e::es) [] pos) (tCB r t):=by
 intro pins s σ H Q I h;refine wpAny_Call_Name_kw (zj6 I hg hm hv ?_ hn hdb);exact PyProof.Rows.callWith_type1 (thn (ha pos pins s σ H _ I h) fun us s1 ⟨vs,H1,I1,r1,q1⟩=>hc pins s1 σ H1 vs us Q I1 r1 q1) he hpl
end
end L2
namespace HT
open PySem PyProof.Rows
section
open PySem.SeqAt
open PySem.AutoSeq1 (wpAny_loadPart')
open PySem.MeetsSeq PySem.MeetsSeq2 PySem.MeetsSeq3
end
section
variable {prog:Program}{w:World}{A:Around}{E:Value→Shared→Prop}{s:Shared}
def sIx (n d:Nat):Option Int→Nat
 | none=>d
 | some v=>if v<0 then (v+(n:Int)).toNat else min v.toNat n
theorem sIx_none (n d:Nat):sIx n d none=d:=rfl
theorem ztd (n d k:Nat):sIx n d (some (k:Int))=min k n:=by
 show (if (k:Int)<0 then ((k:Int)+(n:Int)).toNat else min (k:Int).toNat n)=min k n
 rw [if_neg (by omega),Int.toNat_natCast]
end
end HT
namespace L2
open PySem PySem.Spec PyProof.Rows
abbrev TO:=St→Hp→(Option Int→Hp→Prop)→Prop
def PO (X:Cx)(e:Option Expr)(t:TO):Prop:=
 ∀ (pins:List (Addr×Obj)) (s:Shared) (σ:St) (H:Hp) (Q:Option Int→Hp→Prop),Inv X pins σ H s→t σ H Q→
  wpAny (model X.prog X.w) X.A (evalPart e X.env) (fun u s'=>∃ o H',Inv X pins σ H' s'∧IsPart u o∧Q o H') X.xe s
def tNoPart:TO:=fun _ H Q=>Q none H
def tPart (t:TE):TO:=fun σ H Q=>t σ H fun x H1=>∃ i,x=.int i∧Q (some i) H1
section
variable {X:Cx}{e:Expr}{te:TE}{lo hi:Option Expr}{tl th:TO}{pos p2:Pos}
theorem zou:PO X none tNoPart:=by
 intro pins s σ H Q I h;rw [evalPart_none];exact wpAny_pure ⟨none,H,I,.none,h⟩
theorem zjj (h:PE X e te):PO X (some e) (tPart te):=by
 intro pins s σ H Q I hw;rw [evalPart_some];refine thn (h pins s σ H _ I hw) fun u s1 ⟨x,H1,I1,r1,q1⟩=>?_;obtain ⟨i,rfl,q⟩:=q1;obtain ⟨t,rfl⟩:=r1;exact ⟨some i,H1,I1,.int i t,q⟩
def SlR (X:Cx)(r:V→Option Int→Option Int→Hp→VK→Prop):Prop:=
 ∀ (pins:List (Addr×Obj)) (s:Shared) (σ:St) (H:Hp) (x:V) (v vl vu:Value) (lo hi:Option Int) (sl:Addr) (Q:VK),Inv X pins σ H s→RelV x v→s.heap.IsSliceOf sl vl vu .none→IsPart vl lo→IsPart vu hi→r x lo hi H Q→
  ∃ T id,typeLookup (.type T) "__getitem__"=pure (some (.builtin id))∧s.TypeIs v T∧wpAny (model X.prog X.w) X.A (getItem v (.ref sl)) (EP X pins σ Q) X.xe s
def tSl (r:V→Option Int→Option Int→Hp→VK→Prop)(te:TE)(tl th:TO):TE:=fun σ H Q=>te σ H fun x H1=>tl σ H1 fun l H2=>th σ H2 fun u H3=>r x l u H3 Q
theorem ziq {r:V→Option Int→Option Int→Hp→VK→Prop}(hr:SlR X r)(he:PE X e te)(hl:PO X lo tl)(hu:PO X hi th):PE X (.Subscript e (.Slice lo hi none p2) pos) (tSl r te tl th):=by
 intro pins s σ H Q I h;refine Subscript_ (thn (he pins s σ H _ I h) fun v s1 ⟨x,H1,I1,r1,q1⟩=>?_);refine wpAny_Slice (thn (hl pins s1 σ H1 _ I1 q1) fun vl s2 ⟨l,H2,I2,pl,q2⟩=>thn (hu pins s2 σ H2 _ I2 q2) fun vu s3 ⟨u,H3,I3,pu,q3⟩=>?_);rw [evalPart_none];refine wpAny_pure ?_;have I4:Inv X pins σ H3 {s3 with heap:=s3.heap.push {cls:=.type "slice",data:=.fields #[vl,vu,.none]}}:=I3.kept (t':=s3.toks) fun b ob q=>Heap.get?_push_of_some _ q;obtain ⟨T,id,hT,ht,hg⟩:=hr pins {s3 with heap:=s3.heap.push {cls:=.type "slice",data:=.fields #[vl,vu,.none]}} σ H3 x v vl vu l u s3.heap.objs.size Q I4 r1 (Heap.IsSliceOf.new ..) pl pu q3;show wpAny (model X.prog X.w) X.A (subscriptTail e (.Slice lo hi none p2) v (.ref s3.heap.objs.size)) (EP X pins σ Q) X.xe {s3 with heap:=s3.heap.push {cls:=.type "slice",data:=.fields #[vl,vu,.none]}};exact tail_any (ops:=[.ref s3.heap.objs.size,v]) ht hT hg (by with_unfolding_all rfl)
def cutV (xs:List V)(lo hi:Option Int):List V:=(xs.drop (HT.sIx xs.length 0 lo)).take (HT.sIx xs.length xs.length hi - HT.sIx xs.length 0 lo)
theorem zue (xs:List V)(lo hi:Option Int):(cutV xs lo hi).length≤xs.length:=by
 unfold cutV;rw [List.length_take,List.length_drop];omega
end
end L2
namespace L2
open PySem PySem.Spec PyProof.Rows
def ixN (n:Nat)(i:Int):Option Nat:=if 0≤i then (if i<n then some i.toNat else none) else if -(n:Int)≤i then some (i+n).toNat else none
def atI {α:Type}(xs:List α)(i:Int):Option α:=(ixN xs.length i).bind fun j=>xs[j]?
theorem ixN_seq {n:Nat}{i:Int}{j:Nat}(h:ixN n i=some j):seqIndex? i n=some j∧j<n∧-(n:Int)≤i∧i<n:=by
 unfold ixN at h;by_cases h0:0≤i
 ·rw [if_pos h0] at h;by_cases h1:i<n
  ·rw [if_pos h1] at h;have e:i.toNat=j:=Option.some.inj h;exact ⟨by rw [seqIndex_of h0 h1,e],by omega,by omega,h1⟩
  ·rw [if_neg h1] at h;cases h
 ·rw [if_neg h0] at h;by_cases h1:-(n:Int)≤i
  ·rw [if_pos h1] at h;have e:(i+n).toNat=j:=Option.some.inj h;exact ⟨by rw [seqIndex_neg (by omega) h1,e],by omega,h1,by omega⟩
  ·rw [if_neg h1] at h;cases h
theorem atI_get {α:Type}{xs:List α}{i:Int}{v:α}(h:atI xs i=some v):∃ j,seqIndex? i xs.length=some j∧xs[j]? = some v∧j<xs.length∧-(xs.length:Int)≤i∧i<xs.length:=by
 unfold atI at h;cases e:ixN xs.length i with
 | none=>rw [e] at h;cases h
 | some j=>
  rw [e] at h;obtain ⟨h1,h2,h3,h4⟩:=ixN_seq e;exact ⟨j,h1,h,h2,h3,h4⟩
theorem zaj {α:Type}{xs:List α}{j:Nat}{v:α}(h:xs[j]? = some v):atI xs (j:Int)=some v:=by
 have hj:j<xs.length:=(List.getElem?_eq_some_iff.mp h).1;have e:ixN xs.length (j:Int)=some j:=by
  unfold ixN;rw [if_pos (by omega),if_pos (by omega)];simp
 unfold atI;rw [e];exact h
theorem atI_last {α:Type}(xs:List α)(v:α):atI (xs++[v]) (-1)=some v:=by
 have hl:(xs++[v]).length=xs.length+1:=by simp
 have e:ixN (xs++[v]).length (-1)=some xs.length:=by
  unfold ixN;rw [hl,if_neg (by decide),if_pos (by omega)]
  congr 1
  omega
 unfold atI;rw [e];show (xs++[v])[xs.length]? = some v;simp
def PlainIx (b:Expr):Prop:=∀ o i,subscripted b false o i=operate [o,i] (getItem o i)
def IxR (X:Cx)(r:R2):Prop:=
 ∀ (value slice:Expr) (pins:List (Addr×Obj)) (s:Shared) (σ:St) (H:Hp) (x y:V) (v u:Value) (Q:VK),Inv X pins σ H s→RelV x v→RelV y u→r x y H Q→
  subscripted slice false v u=operate [v,u] (getItem v u)→wpAny (model X.prog X.w) X.A (subscriptTail value slice v u) (EP X pins σ Q) X.xe s
def MtR (X:Cx)(id:String)(r:V→List V→Hp→VK→Prop):Prop:=
 ∀ (pins:List (Addr×Obj)) (s:Shared) (σ:St) (H:Hp) (x:V) (xs:List V) (v:Value) (us:List Value) (Q:VK),Inv X pins σ H s→RelV x v→Vals xs us→r x xs H Q→
  wpAny (model X.prog X.w) X.A (call (.builtin id) (v::us)) (EP X pins σ Q) X.xe s
section
variable {X:Cx}{a b:Expr}{ta tb:TE}{pos:Pos}
theorem zbt {r:R2}(hr:IxR X r)(ha:PE X a ta)(hb:PE X b tb)(hs:PlainIx b):PE X (.Subscript a b pos) (tOp r ta tb):=by
 intro pins s σ H Q I h;exact Subscript_ (binT ha hb I h fun v u s2 x y H2 I2 rx ry q=>hr a b pins s2 σ H2 x y v u Q I2 rx ry q (hs _ _))
def rIxL (K:PySem.W.Frag):R2:=fun x y H Q=>∃ p xs i v,x=.ref p∧y=.int i∧SqL K H p xs∧atI xs i=some v∧Q v H
def rIxT (K:PySem.W.Frag):R2:=fun x y H Q=>∃ p xs i v,x=.ref p∧y=.int i∧SqT K H p xs∧atI xs i=some v∧Q v H
theorem zax:IxR X (rIxL X.K):=by
 intro value slice pins s σ H x y v u Q I rx ry h hs;obtain ⟨p,xs,i,z,rfl,rfl,hq,he,q⟩:=h;cases rx;obtain ⟨t,rfl⟩:=ry;obtain ⟨its,r,pl,hz⟩:=I.list hq;obtain ⟨j,h1,h2,h3,h4,h5⟩:=atI_get he;obtain ⟨w,ew,rw'⟩:=r.get h2;have hl:=r.length;have hn:=line63;have fin:EP X pins σ Q w s:=⟨z,H,I,rw',q⟩;by_cases h0:0≤i
 ·have hj:i.toNat=j:=by
   rw [seqIndex_of h0 h5] at h1;exact Option.some.inj h1
  exact item_listR pl.isList h0 (by omega) (by rw [hj];simpa using ew) fin hs
 ·have hj:(i+(its.toArray.size:Int)).toNat=j:=by
   rw [seqIndex_neg (by omega) h4] at h1
   rw [List.size_toArray,←hl];exact Option.some.inj h1
  exact subscriptTail_builtinR (x:=w) pl.isList.typeIs slot_list_getitem.lookup
   (wpAny_getItem_list_neg (Q:=fun r s'=>r=w∧EP X pins σ Q r s') pl.isList (by omega) (by rw [List.size_toArray] <;> omega) (by omega) (by rw [hj];simpa using ew) ⟨rfl,fin⟩) hs
theorem zl4:IxR X (rIxT X.K):=by
 intro value slice pins s σ H x y v u Q I rx ry h hs;obtain ⟨p,xs,i,z,rfl,rfl,hq,he,q⟩:=h;cases rx;obtain ⟨t,rfl⟩:=ry;obtain ⟨its,r,pl,hz⟩:=I.tuple hq;obtain ⟨j,h1,h2,h3,h4,h5⟩:=atI_get he;obtain ⟨w,ew,rw'⟩:=r.get h2;have hl:=r.length;have hn:=line63;have fin:EP X pins σ Q w s:=⟨z,H,I,rw',q⟩;exact subscriptTail_builtinR (x:=w) pl.typeIs slot_tuple_getitem.lookup
  (getItem_tuple (j:=j) (Q:=fun r s'=>r=w∧EP X pins σ Q r s') pl (by omega) (by omega) (by rw [List.size_toArray,←hl];exact h1) (by simpa using ew) ⟨rfl,fin⟩) hs
theorem zqs (lo hi:Option Int)(n:Nat):(sliceBounds lo hi none n).1=((HT.sIx n 0 lo:Nat):Int)∧(sliceBounds lo hi none n).2.1=((HT.sIx n n hi:Nat):Int)∧(sliceBounds lo hi none n).2.2=1:=by
 refine ⟨?_,?_,rfl⟩
 ·cases lo with
  | none=>simp [sliceBounds,HT.sIx]
  | some i=>
   simp only [sliceBounds,HT.sIx,Option.getD_none,show (1:Int)>0 by decide,if_true]
   by_cases h:i<0
   ·simp only [h,if_true] <;> omega
   ·simp only [h,if_false] <;> omega
 ·cases hi with
  | none=>simp [sliceBounds,HT.sIx]
  | some i=>
   simp only [sliceBounds,HT.sIx,Option.getD_none,show (1:Int)>0 by decide,if_true]
   by_cases h:i<0
   ·simp only [h,if_true] <;> omega
   ·simp only [h,if_false] <;> omega
theorem zol (its:List Value)(lo hi:Option Int):slicePick its.toArray lo hi none=((its.drop (HT.sIx its.length 0 lo)).take (HT.sIx its.length its.length hi - HT.sIx its.length 0 lo)).toArray:=by
 obtain ⟨h1,h2,h3⟩:=zqs lo hi its.toArray.size;unfold slicePick;rw [h1,h2,h3];simp only [sliceRange_one,pick_run,List.size_toArray] <;> rfl
def rSlL (K:PySem.W.Frag):V→Option Int→Option Int→Hp→VK→Prop:=fun x lo hi H Q=>∃ a xs,x=.ref a∧SqL K H a xs∧∀ p,H p=none→Q (.ref p) (upd H p (.lst (cutV xs lo hi)))
theorem zli:SlR X (rSlL X.K):=by
 intro pins s σ H x v vl vu lo hi sl Q I rx hs pl pu h;obtain ⟨a,xs,rfl,hx,q⟩:=h;cases rx;obtain ⟨its,r,ht,hz⟩:=I.list hx;have hlen:=r.length;refine ⟨"list",_,slot_list_getitem.lookup,ht.isList.typeIs,?_⟩;refine wpAny_getItem_list_slice ht.isList hs pl pu .none (by simp) ?_ (by rw [List.size_toArray] <;> omega)
 rw [zol,←hlen];refine ⟨.ref s.heap.objs.size,_,I.laid (t':=s.toks) (o:=.lst (cutV xs lo hi)) (fun b ob q=>Heap.get?_push_of_some _ q) (Nat.le_refl _) ?_,rfl,q _ (I.hok.fresh (Nat.le_refl _))⟩;exact ⟨Nat.le_trans (zue xs lo hi) hz,_,0,(r.drop (HT.sIx xs.length 0 lo)).take (HT.sIx xs.length xs.length hi - HT.sIx xs.length 0 lo),Heap.get?_push_size _ rfl⟩
def flatV:V→Bool
 | .non=>true
 | .bl _=>true
 | .int _=>true
 | .str _=>true
 | _=>false
def eqV:V→V→Bool
 | .non,.non=>true
 | .bl a,.bl b=>a==b
 | .bl a,.int b=>(if a then 1 else 0)==b
 | .int a,.bl b=>a==(if b then 1 else 0)
 | .int a,.int b=>a==b
 | .str a,.str b=>a==b
 | _,_=>false
theorem zvd {A:Around}{s:Shared}{y x:V}{u v:Value}(ry:RelV y u)(rx:RelV x v)(fy:flatV y=true)(fx:flatV x=true):SeqAt.EqAt A s u v (eqV y x):=by
 cases y with
 | non=>
  cases ry;cases x with
  | non=>cases rx;exact SeqAt.EqAt.same _
  | bl b=>cases rx;exact SeqAt.EqAt.none_bool b
  | int b=>obtain ⟨t,rfl⟩:=rx;exact SeqAt.EqAt.none_int b t
  | str b=>obtain ⟨t,rfl⟩:=rx;exact SeqAt.EqAt.none_str b t
  | _=>exact absurd (show false=true from fx) Bool.false_ne_true
 | bl a=>
  cases ry;cases x with
  | non=>cases rx;exact SeqAt.EqAt.bool_none a
  | bl b=>cases rx;exact SeqAt.EqAt.bool_bool a b
  | int b=>obtain ⟨t,rfl⟩:=rx;exact SeqAt.EqAt.bool_int a b t
  | str b=>obtain ⟨t,rfl⟩:=rx;exact SeqAt.EqAt.bool_str a b t
  | _=>exact absurd (show false=true from fx) Bool.false_ne_true
 | int a=>
  obtain ⟨t',rfl⟩:=ry;cases x with
  | non=>cases rx;exact SeqAt.EqAt.int_none a t'
  | bl b=>cases rx;exact SeqAt.EqAt.int_bool a t' b
  | int b=>obtain ⟨t,rfl⟩:=rx;exact SeqAt.EqAt.int_int a t' b t
  | str b=>obtain ⟨t,rfl⟩:=rx;exact SeqAt.EqAt.int_str a t' b t
  | _=>exact absurd (show false=true from fx) Bool.false_ne_true
 | str a=>
  obtain ⟨t',rfl⟩:=ry;cases x with
  | non=>cases rx;exact SeqAt.EqAt.str_none a t'
  | bl b=>cases rx;exact SeqAt.EqAt.str_bool a t' b
  | int b=>obtain ⟨t,rfl⟩:=rx;exact SeqAt.EqAt.str_int a t' b t
  | str b=>obtain ⟨t,rfl⟩:=rx;exact SeqAt.EqAt.str_str a t' b t
  | _=>exact absurd (show false=true from fx) Bool.false_ne_true
 | _=>exact absurd (show false=true from fy) Bool.false_ne_true
def eqU (x:V)(u:Value):Bool:=match u with
 | .none=>eqV .non x
 | .bool b=>eqV (.bl b) x
 | .int i _=>eqV (.int i) x
 | .str z _=>eqV (.str z) x
 | _=>false
theorem eqU_of {x y:V}{u:Value}(r:RelV y u)(f:flatV y=true):eqU x u=eqV y x:=by
 cases y with
 | non=>cases r;rfl
 | bl b=>cases r;rfl
 | int i=>obtain ⟨t,rfl⟩:=r;rfl
 | str z=>obtain ⟨t,rfl⟩:=r;rfl
 | _=>exact absurd (show false=true from f) Bool.false_ne_true
theorem zme {x:V}:∀ {xs:List V} {us:List Value},Vals xs us→xs.all flatV=true→us.any (eqU x)=xs.any fun y=>eqV y x
 | _,_,.nil,_=>rfl
 | y::xs,u::us,.cons r t,f=>by
  rw [List.all_cons,Bool.and_eq_true] at f;rw [List.any_cons,List.any_cons,eqU_of r f.1,zme t f.2]
theorem ziu {A:Around}{s:Shared}{x:V}{v:Value}(rx:RelV x v)(fx:flatV x=true):∀ {xs:List V} {us:List Value},Vals xs us→xs.all flatV=true→∀ u∈us,SeqAt.EqAt A s u v (eqU x u)
 | _,_,.nil,_=>fun u hu=>by cases hu
 | y::xs,u::us,.cons r t,f=>fun u' hu=>by
  rw [List.all_cons,Bool.and_eq_true] at f;rcases List.mem_cons.mp hu with rfl | hu
  ·rw [eqU_of r f.1];exact zvd r rx f.1 fx
  ·exact ziu rx fx t f.2 u' hu
def inV (x:V)(xs:List V):Bool:=xs.any fun y=>eqV y x
def rIn (K:PySem.W.Frag)(neg:Bool):R2:=fun x y H Q=>∃ p xs,y=.ref p∧(SqL K H p xs∨SqT K H p xs)∧flatV x=true∧xs.all flatV=true∧Q (.bl (if neg then !inV x xs else inV x xs)) H
theorem zbl:OpR X (compareOp .In) (rIn X.K false):=by
 intro pins s σ H x y v u Q I rx ry h;obtain ⟨p,xs,rfl,hq,fx,fs,q⟩:=h;cases ry;rcases hq with hq | hq
 ·obtain ⟨its,r,pl,hz⟩:=I.list hq;refine SeqAt.in_listAt (eqU x) pl.isList (fun w hw=>ziu rx fx r fs w (by simpa using hw)) ⟨.bl _,H,I,rfl,?_⟩
  rw [show its.toArray.any (eqU x)=its.any (eqU x) by simp,zme r fs]
  exact q
 ·obtain ⟨its,r,pl,hz⟩:=I.tuple hq;refine SeqAt.in_tupleAt (eqU x) pl (fun w hw=>ziu rx fx r fs w (by simpa using hw)) ⟨.bl _,H,I,rfl,?_⟩
  rw [show its.toArray.any (eqU x)=its.any (eqU x) by simp,zme r fs]
  exact q
theorem zrd:OpR X (compareOp .NotIn) (rIn X.K true):=by
 intro pins s σ H x y v u Q I rx ry h;obtain ⟨p,xs,rfl,hq,fx,fs,q⟩:=h;cases ry;rcases hq with hq | hq
 ·obtain ⟨its,r,pl,hz⟩:=I.list hq;refine SeqAt.notIn_listAt (eqU x) pl.isList (fun w hw=>ziu rx fx r fs w (by simpa using hw)) ⟨.bl _,H,I,rfl,?_⟩
  rw [show its.toArray.any (eqU x)=its.any (eqU x) by simp,zme r fs]
  exact q
 ·obtain ⟨its,r,pl,hz⟩:=I.tuple hq;refine SeqAt.notIn_tupleAt (eqU x) pl (fun w hw=>ziu rx fx r fs w (by simpa using hw)) ⟨.bl _,H,I,rfl,?_⟩
  rw [show its.toArray.any (eqU x)=its.any (eqU x) by simp,zme r fs]
  exact q
def tyV (K:PySem.W.Frag)(T:String)(x:V)(H:Hp):Prop:=match x with
 | .str _=>T="str"
 | .int _=>T="int"
 | .ref p=>(T="list"∧∃ xs,SqL K H p xs)∨(T="tuple"∧∃ o,K.lookup p=some o∧o.cls=.type "tuple"∧o.dict=none) ∨
   (T="dict"∧((∃ kvs,H p=some (.dK kvs))∨∃ kvs,H p=some (.dT kvs)))∨(T="set"∧∃ S n,H p=some (.set S n))
 | _=>False
theorem tyV_is {pins:List (Addr×Obj)}{σ:St}{H:Hp}{s:Shared}{T:String}{x:V}{v:Value}(I:Inv X pins σ H s)(r:RelV x v)(ty:tyV X.K T x H):
  s.TypeIs v T∧∀ a,v=.ref a→∃ ob,s.heap.get? a=some ob∧ob.dict=none:=by
 cases x with
 | str z=>
  obtain ⟨t,rfl⟩:=r;cases (show T="str" from ty)
  exact ⟨typeIs_str s z t,fun _ e=>nomatch e⟩
 | int i=>
  obtain ⟨t,rfl⟩:=r;cases (show T="int" from ty)
  exact ⟨typeIs_int s i t,fun _ e=>nomatch e⟩
 | ref p=>
  cases r;rcases ty with ⟨rfl,xs,hq⟩ | ⟨rfl,o,hk,hc,hd⟩ | ⟨rfl,hk⟩ | ⟨rfl,S,n,hk⟩
  ·obtain ⟨its,_,pl,_⟩:=I.list hq;refine ⟨pl.isList.typeIs,fun a e=>?_⟩;cases e;obtain ⟨o,n,e,c,hd,_⟩:=pl;exact ⟨o,e,hd⟩
  ·refine ⟨⟨o,I.kIn p o hk,hc⟩,fun a e=>?_⟩;cases e;exact ⟨o,I.kIn _ o hk,hd⟩
  ·have z:∃ o,s.heap.get? p=some o∧o.ExactDict:=by
    rcases hk with ⟨kvs,hk⟩ | ⟨kvs,hk⟩
    ·obtain ⟨_,_,_,_,o,_,_,e,ex,_⟩:=I.hok p _ hk;exact ⟨o,e,ex⟩
    ·obtain ⟨_,_,_,_,o,_,_,e,ex,_⟩:=I.hok p _ hk;exact ⟨o,e,ex⟩
   obtain ⟨o,e,ex⟩:=z;refine ⟨⟨o,e,ex.1⟩,fun a e2=>?_⟩;cases e2;exact ⟨o,e,ex.2.1⟩
  ·obtain ⟨o,_,_,_,e,ex,_⟩:=I.hok p _ hk;refine ⟨⟨o,e,ex.1⟩,fun a e2=>?_⟩;cases e2;exact ⟨o,e,ex.2.1⟩
 | _=>exact False.elim ty
def tBM0 (K:PySem.W.Frag)(T:String)(r:V→List V→Hp→VK→Prop)(to:TE):TE:=fun σ H Q=>to σ H fun x H1=>tyV K T x H1∧r x [] H1 Q
def tBM (K:PySem.W.Frag)(T:String)(r:V→List V→Hp→VK→Prop)(to:TE)(t:TA):TE:=fun σ H Q=>to σ H fun x H1=>tyV K T x H1∧t σ H1 fun xs H2=>r x xs H2 Q
variable {o e:Expr}{es:List Expr}{to:TE}{t:TA}{name:Str}{apos cpos:Pos}{T id:String}{r:V→List V→Hp→VK→Prop}
theorem pe_bm0 (pa:PlainAttrs T)(slot:Slot T name id)(hty:typeOf (.builtin id)=pure (.type "method_descriptor"))(hm:MtR X id r)(ho:PE X o to)(hbase:attributeBase o name X.env (eval o X.env)=eval o X.env:=by rfl)(hline:(apos.endLine==cpos.line)=true:=by rfl):PE X (.Call (.Attribute o name apos) [] [] cpos) (tBM0 X.K T r to):=by
 intro pins s σ H Q I h;refine wpAny_Call_method0_late hbase hline (thn (ho pins s σ H _ I h) fun v s1 ⟨x,H1,I1,r1,ty,q1⟩=>?_);obtain ⟨h1,h2⟩:=tyV_is I1 r1 ty;exact ⟨T,id,pa,slot,hty,h1,h2,Calls.callWith_builtin rfl (PySem.evalArgs_none (hm pins s1 σ H1 x [] v [] Q I1 r1 .nil q1))⟩
theorem zox (pa:PlainAttrs T)(slot:Slot T name id)(hty:typeOf (.builtin id)=pure (.type "method_descriptor"))(hm:MtR X id r)(ho:PE X o to)(ha:PA X (e::es) t)(hbase:attributeBase o name X.env (eval o X.env)=eval o X.env:=by rfl)(hfew:((backTo cpos (starEach (e::es) X.env)).all (fun x=>!x.1)&&(backToKw cpos (keywordEach [] X.env)).all (fun x=>x.1.isSome)
   && decide ((e::es).length+([]:List Keyword).length+(if ([]:List Keyword).isEmpty then 0 else 1)<30))=true:=by rfl)(hline:(apos.endLine==cpos.line)=true:=by rfl)(hs:starEach (e::es) X.env=(false,eval e X.env)::starEach es X.env:=by rfl)(hplain:(backTo cpos (starEach es X.env)).any (·.1)=false:=by rfl):
  PE X (.Call (.Attribute o name apos) (e::es) [] cpos) (tBM X.K T r to t):=by
 intro pins s σ H Q I h;refine wpAny_Call_method_late hbase hfew hline rfl (thn (ho pins s σ H _ I h) fun v s1 ⟨x,H1,I1,r1,ty,q1⟩=>?_);obtain ⟨h1,h2⟩:=tyV_is I1 r1 ty;refine ⟨T,id,pa,slot,hty,h1,h2,?_⟩;have hA:=ha cpos pins s1 σ H1 _ I1 q1;rw [hs] at hA ⊢;refine Calls.callWith_builtin (by show (false||(backTo cpos (starEach es X.env)).any (·.1))=false;rw [hplain] <;> rfl) (Calls.evalArgs_plain ?_)
 exact thn hA fun us s2 ⟨vs,H2,I2,r2,q2⟩=>hm pins s2 σ H2 x vs v us Q I2 r1 r2 q2
end
end L2
namespace L2
open PySem PySem.Spec PyProof.Rows
def MtM (X:Cx)(id:String)(r:V→List V→Hp→VK→Prop):Prop:=
 ∀ (pins:List (Addr×Obj)) (s:Shared) (σ:St) (H:Hp) (x:V) (xs:List V) (v:Value) (us:List Value) (Q:VK),Inv X pins σ H s→RelV x v→Vals xs us→r x xs H Q→
  wpAny (model X.prog X.w) X.A (call (.builtin id) (v::us)) (EP X pins σ Q) X.xe s
theorem Vals.one:∀ {x:V} {us:List Value},Vals [x] us→∃ u,us=[u]∧RelV x u
 | _,_,.cons r .nil=>⟨_,rfl,r⟩
theorem Vals.zero:∀ {us:List Value},Vals [] us→us=[]
 | _,.nil=>rfl
theorem Vals.dropLast {xs:List V}{us:List Value}(h:Vals xs us):Vals xs.dropLast us.dropLast:=by
 induction h with
 | nil=>exact .nil
 | cons r t ih=>
  cases t with
  | nil=>exact .nil
  | cons q t'=>exact .cons r ih
theorem Vals.eraseIdx:∀ {xs:List V} {us:List Value} (i:Nat),Vals xs us→Vals (xs.eraseIdx i) (us.eraseIdx i)
 | _,_,_,.nil=>.nil
 | _,_,0,.cons _ t=>t
 | _,_,i+1,.cons r t=>.cons r (Vals.eraseIdx i t)
theorem Vals.reverse {xs:List V}{us:List Value}(h:Vals xs us):Vals xs.reverse us.reverse:=by
 induction h with
 | nil=>exact .nil
 | cons r t ih=>rw [List.reverse_cons,List.reverse_cons];exact Vals.append ih (.cons r .nil)
theorem zwy {α:Type}(l:List α):l.eraseIdx (l.length - 1)=l.dropLast:=by
 induction l with
 | nil=>rfl
 | cons a r ih=>
  cases r with
  | nil=>rfl
  | cons b r=>
   have e:(a::b::r).length - 1=((b::r).length - 1)+1:=by
    have h1:(a::b::r).length=r.length+2:=rfl;have h2:(b::r).length=r.length+1:=rfl;omega
   rw [e,List.eraseIdx_cons_succ,ih]
   all_goals rfl
section
variable {X:Cx}{pins:List (Addr×Obj)}{σ:St}{H:Hp}{s:Shared}{l b:Addr}{xs ys zs:List V}
theorem Inv.lset {its its':List Value}{n:Nat}{f:Array Value→Array Value}{t':Nat}(I:Inv X pins σ H s)(hH:H l=some (.lst xs))(e:s.heap.get? l=some {cls:=.type "list",data:=.seq its.toArray n})(hf:f its.toArray=its'.toArray)(hv:Vals ys its')(hz:ys.length≤sizeLine):
  Inv X pins σ (upd H l (.lst ys)) {s with heap:=s.heap.update l (Obj.mapSeq f),toks:=t'}:=by
 have q:=PySem.IsL.update e f;rw [hf] at q;refine I.write (x:=l) (e:=l) (by rw [hH];exact trivial) (.inl rfl) (fun b' u hb hu=>(Heap.get?_update_other s.heap (Obj.mapSeq f) (Ne.symm hb)).trans hu) ⟨_,q⟩ ?_
 exact ⟨hz,its',_,hv,q⟩
theorem Inv.lnew {its:List Value}{t':Nat}(I:Inv X pins σ H s)(hv:Vals ys its)(hz:ys.length≤sizeLine):
  Inv X pins σ (upd H s.heap.objs.size (.lst ys)) {s with heap:=s.heap.push {cls:=.type "list",data:=.seq its.toArray},toks:=t'}:=
 I.laid (fun _ _ q=>Heap.get?_push_of_some _ q) (Nat.le_refl _) ⟨hz,its,0,hv,Heap.get?_push_size _ rfl⟩
theorem Inv.fresh (I:Inv X pins σ H s):H s.heap.objs.size=none:=I.hok.fresh (Nat.le_refl _)
theorem Inv.lstM (I:Inv X pins σ H s)(hH:H l=some (.lst xs)):xs.length≤sizeLine∧∃ (its:List Value) (n:Nat),Vals xs its∧xs.length=its.length∧s.heap.get? l=some {cls:=.type "list",data:=.seq its.toArray n}:=by
 obtain ⟨z,its,n,r,e⟩:=I.hok l _ hH;exact ⟨z,its,n,r,r.length,e⟩
theorem notLongL {n:Nat}(h:n≤sizeLine):Builtin.List.listTooLong n=false:=by
 unfold Builtin.List.listTooLong;exact decide_eq_false (by omega)
end
section
variable {X:Cx}
def rAppend:V→List V→Hp→VK→Prop:=fun x vs H Q=>∃ l xs y,x=.ref l∧vs=[y]∧H l=some (.lst xs)∧xs.length<sizeLine∧Q .non (upd H l (.lst (xs++[y])))
theorem zdu:MtM X "list.append" rAppend:=by
 intro pins s σ H x vs v us Q I rx rv h;obtain ⟨l,xs,y,rfl,rfl,hH,hz,q⟩:=h;cases rx;obtain ⟨u,rfl,ru⟩:=rv.one;obtain ⟨z,its,n,r,hl,e⟩:=I.lstM hH;refine call_meets F.slot_list_append ⟨_,e,rfl⟩ F.entry_list_append (F.args_list_append_2 _ _) (PySem.list_append l its.toArray n u (by rw [List.size_toArray];omega)) ⟨e,?_⟩
 refine ⟨.non,_,I.lset (its':=its++[u]) hH e (by simp) (r.append (.cons ru .nil)) ?_,rfl,q⟩
 rw [List.length_append,List.length_singleton];omega
def rExtend:V→List V→Hp→VK→Prop:=fun x vs H Q=>∃ l b xs zs,x=.ref l∧vs=[.ref b]∧H l=some (.lst xs)∧H b=some (.lst zs)∧xs.length+zs.length≤sizeLine∧Q .non (upd H l (.lst (xs++zs)))
theorem mt_extend:MtM X "list.extend" rExtend:=by
 intro pins s σ H x vs v us Q I rx rv h;obtain ⟨l,b,xs,zs,rfl,rfl,hH,hB,hz,q⟩:=h;cases rx;obtain ⟨u,rfl,ru⟩:=rv.one;cases ru;obtain ⟨z,its,n,r,hl,e⟩:=I.lstM hH;obtain ⟨z2,its2,n2,r2,hl2,e2⟩:=I.lstM hB;have hsz:its.toArray.size+its2.toArray.size≤sizeLine:=by rw [List.size_toArray,List.size_toArray];omega
 have hlong:¬ (!its.toArray.isEmpty&&Builtin.List.listTooLong (its.toArray.size+its2.toArray.size))=true:=by
  rw [notLongL hsz,Bool.and_false];exact Bool.false_ne_true
 refine call_meets F.slot_list_extend ⟨_,e,rfl⟩ F.entry_list_extend (F.args_list_extend_2 _ _)
  (AutoSeq1.list_extend_list_list_0 l its.toArray n b its2.toArray n2 hlong (by rw [List.size_toArray];omega) (by omega)) ⟨e,e2,?_⟩
 refine ⟨.non,_,I.lset (its':=its++its2) hH e (by simp) (r.append r2) ?_,rfl,q⟩
 rw [List.length_append];omega
def rPop:V→List V→Hp→VK→Prop:=fun x vs H Q=>∃ l xs y,x=.ref l∧vs=[]∧H l=some (.lst xs)∧xs[xs.length - 1]? = some y∧Q y (upd H l (.lst xs.dropLast))
theorem mt_pop:MtM X "list.pop" rPop:=by
 intro pins s σ H x vs v us Q I rx rv h;obtain ⟨l,xs,y,rfl,rfl,hH,hy,q⟩:=h;cases rx;have hus:=rv.zero;subst hus;obtain ⟨z,its,n,r,hl,e⟩:=I.lstM hH;obtain ⟨u,hu,ru⟩:=r.get hy;have hy':its.toArray[its.toArray.size - 1]? = some u:=by
  show its.toArray[its.length - 1]? = some u;rw [←Array.getElem?_toList,←hl];exact hu
 refine call_meets F.slot_list_pop ⟨_,e,rfl⟩ F.entry_list_pop (F.args_list_pop_1 _) (MeetsSeq.list_pop_last l its.toArray n u hy' (by rw [List.size_toArray];omega)) ⟨e,?_⟩
 refine ⟨y,_,I.lset (its':=its.dropLast) hH e ?_ r.dropLast ?_,ru,q⟩
 ·show its.toArray.eraseIdxIfInBounds (its.toArray.size - 1)=its.dropLast.toArray;rw [List.size_toArray,List.eraseIdxIfInBounds_toArray,zwy]
 ·rw [List.length_dropLast];omega
def rCat:R2:=fun x y H Q=>∃ l b xs zs,x=.ref l∧y=.ref b∧H l=some (.lst xs)∧H b=some (.lst zs)∧xs.length+zs.length≤sizeLine∧∀ p,H p=none→Q (.ref p) (upd H p (.lst (xs++zs)))
theorem zre:OpR X (binaryOp .Add) rCat:=by
 intro pins s σ H x y v u Q I rx ry h;obtain ⟨l,b,xs,zs,rfl,rfl,hH,hB,hz,q⟩:=h;cases rx;cases ry;obtain ⟨z,its,n,r,hl,e⟩:=I.lstM hH;obtain ⟨z2,its2,n2,r2,hl2,e2⟩:=I.lstM hB;refine PySem.P.add_list e e2 ?_ (by rw [List.size_toArray,List.size_toArray];omega)
 have ea:its.toArray++its2.toArray=(its++its2).toArray:=by simp
 rw [ea];exact ⟨.ref _,_,I.lnew (t':=s.toks) (r.append r2) (by rw [List.length_append];omega),rfl,q _ I.fresh⟩
end
section
variable {prog:Program}{w:World}{A:Around}{E:Value→Shared→Prop}{s:Shared}
end
section
variable {X:Cx}
end
end L2
namespace L2
open PySem PySem.Spec PyProof.Rows
theorem Vals.ints:∀ {ns:List Int} {us:List Value},Vals (ns.map V.int) us→IntsAre us ns
 | [],us,h=>by
  rw [List.map_nil] at h;cases h;exact IntsAre.nil
 | n::ns,us,h=>by
  rw [List.map_cons] at h;cases h with
  | cons r t=>
   obtain ⟨k,rfl⟩:=r;exact IntsAre.cons n k (Vals.ints t)
theorem Vals.bls:∀ {bs:List Bool} {us:List Value},Vals (bs.map V.bl) us→us=bs.map Value.bool
 | [],us,h=>by
  rw [List.map_nil] at h;cases h;rfl
 | b::bs,us,h=>by
  rw [List.map_cons] at h;cases h with
  | cons r t=>
   cases r;rw [Vals.bls t,List.map_cons]
theorem Vals.ref1 {a:Addr}{us:List Value}(r:Vals [V.ref a] us):us=[Value.ref a]:=by
 cases r with
 | cons r t=>
  cases t;cases r;rfl
section
variable {prog:Program}{w:World}{A:Around}{E:Value→Shared→Prop}{s:Shared}{l:Addr}{its:List Value}{ns:List Int}{Q:Value→Shared→Prop}
end
section
variable {X:Cx}
end
section
variable {X:Cx}
end
section
variable {X:Cx}
end
theorem iter_any {prog:Program}{w:World}{A:Around}{E:Value→Shared→Prop}{s:Shared}{l:Addr}{items:Array Value}{Q:Value→Shared→Prop}(hl:s.heap.IsList l items)(h:∀ s₂:Shared,s₂={s with heap:=s.heap.push {cls:=.type "list_iterator",data:=.fields #[.ref l,.int 0 0]}}→
   (s₂.heap.IsListIter s.heap.objs.size l 0∧s₂.heap.IsList l items)→l≠s.heap.objs.size→Q (.ref s.heap.objs.size) s₂):wpAny (model prog w) A (pyIter (.ref l)) Q E s:=by
 have hlt:l<s.heap.objs.size:=by obtain ⟨_,e,_⟩:=hl;exact Heap.lt_size e
 exact wpAny_pyIter_list hl (h _ rfl ⟨⟨_,Heap.get?_push_size _ rfl,rfl,rfl⟩,hl.push _⟩ (Nat.ne_of_lt hlt))
theorem zs1 {prog:Program}{w:World}{A:Around}{bs:List Bool}{its:List Value}(e:its=bs.map Value.bool):
  TruthOf prog w A (fun i v=>its.toArray[i]? = some v) (fun i=>bs.getD i false):=fun i v s Q E hv hq=>by
 have hv':its[i]? = some v:=by simpa using hv
 rw [e,List.getElem?_map] at hv';obtain ⟨b,hb,rfl⟩:=Option.map_eq_some_iff.mp hv';have hg:bs.getD i false=b:=by rw [List.getD_eq_getElem?_getD,hb] <;> rfl
 have hq':Q (bs.getD i false) s:=hq;rw [hg] at hq';exact wpAny_truthy_bool hq'
theorem zst:∀ bs:List Bool,(List.range bs.length).any (fun i=>bs.getD i false)=bs.any id
 | []=>rfl
 | b::bs=>by
  rw [List.length_cons,List.range_succ_eq_map,List.any_cons,List.any_map,List.any_cons,←zst bs]
  all_goals rfl
section
variable {X:Cx}
def rAny (K:PySem.W.Frag):List V→Hp→VK→Prop:=fun vs H Q=>∃ (a:Addr) (bs:List Bool),vs=[V.ref a]∧SqL K H a (bs.map V.bl)∧Q (.bl (bs.any id)) H
theorem cr_any (hc:X.calm=true):CallR X (.builtin "any") (rAny X.K):=by
 intro pins s σ H vs us Q I r h;obtain ⟨a,bs,rfl,hs,q⟩:=h;obtain ⟨its,rv,hl,_⟩:=I.list hs;rw [Vals.ref1 r];have hb:=rv.bls;refine call_any_walk (iter_any hl.isList fun s₂ e2 st hne=>?_);subst e2;refine ⟨_,_,_,_,_,_,_,rfl,Walks.list (A:=X.A.in1) (I.ok.hd hc) _ a hne its.toArray,st,zs1 hb,fun h' tk hk=>?_⟩;refine ⟨.bl _,H,I.kept fun b o eo=>hk b o (fun hmem=>?_) (Heap.get?_push_of_some _ eo),?_,q⟩
 ·rcases List.mem_cons.mp hmem with e1 | hmem
  ·exact absurd (e1▸Heap.lt_size eo) (Nat.lt_irrefl _)
  ·cases hmem
 ·show Value.bool _=Value.bool _;rw [←zst,hb,List.size_toArray,List.length_map]
end
section
variable {X:Cx}{pins:List (Addr×Obj)}{σ:St}{H:Hp}{s:Shared}
end
section
variable {X:Cx}
end
end L2
namespace L2
open PySem PySem.Spec PyProof.Rows
abbrev CellAt (h:Heap)(c:Addr)(v:Option Value):Prop:=h.IsCell c v
def relS (scope sc:Scope):Scope:=
 {scope with names:=scope.names.map fun (n,k)=>if (k==.free&&sc.kind==.function&&sc.names.lookup n==some .cell) then (n,.cell) else (n,k)}
def cloFrom (cells:List (Str×Addr)):List (Str×NameKind)→List (Str×Addr)→List (Str×Addr)
 | [],acc=>acc
 | (n,k)::r,acc=>if k==.free then cloFrom cells r ((n,(cells.lookup n).getD 0)::acc) else cloFrom cells r acc
theorem zkb (env:Env)(f:Str×NameKind→List (Str×Addr)→Sem (ForInStep (List (Str×Addr))))(hf:∀ n k c,f (n,k) c=if k==.free then (do let a←cellOf env n;pure (.yield ((n,a)::c))) else pure (.yield c)):
  ∀ (names:List (Str×NameKind)) (acc:List (Str×Addr)),(∀ y∈names,y.2=.free→∃ c,env.cells.lookup y.1=some c)→forIn names acc f=pure (cloFrom env.cells names acc)
 | [],acc,_=>by rw [List.forIn_nil];rfl
 | (n,k)::r,acc,h=>by
  rw [List.forIn_cons,hf];have ih:=fun acc=>zkb env f hf r acc fun y hy=>h y (List.mem_cons_of_mem _ hy);unfold cloFrom;by_cases hk:(k==NameKind.free)=true
  ·rw [if_pos hk,if_pos hk];obtain ⟨c,hc⟩:=h (n,k) List.mem_cons_self (by simpa using hk)
   have e:cellOf env n=pure c:=by unfold cellOf;rw [hc]
   rw [e];have e2:(env.cells.lookup n).getD 0=c:=by rw [hc];rfl
   rw [e2];exact ih _
  ·rw [if_neg hk,if_neg hk];exact ih _
theorem zw3 {scope:Scope}{env:Env}(h:∀ y∈scope.names,y.2=.free→∃ c,env.cells.lookup y.1=some c):closureFor scope env=pure (cloFrom env.cells scope.names []):=by
 simp only [closureFor];rw [zkb env _ (fun n k c=>rfl) scope.names [] h];rfl
theorem zjl {α:Type}:∀ {l:List (Str×α)} {n:Str} {c:α},(n,c)∈l→∃ c',l.lookup n=some c'
 | (k,v)::r,n,c,h=>by
  rw [List.lookup_cons];cases hb:n==k with
  | true=>exact ⟨_,rfl⟩
  | false=>
   rcases List.mem_cons.mp h with e | h
   ·cases e;simp at hb
   ·exact zjl h
theorem zgb {cells:List (Str×Addr)}:∀ {names:List (Str×NameKind)} {acc:List (Str×Addr)} {n:Str} {c:Addr},(n,c)∈cloFrom cells names acc→(n,c)∈acc∨((n,.free)∈names∧c=(cells.lookup n).getD 0)
 | [],_,_,_,h=>.inl h
 | (m,k)::r,acc,n,c,h=>by
  unfold cloFrom at h;split at h
  ·rename_i hk
   have hk:k=.free:=by simpa using hk
   rcases zgb h with h | ⟨h1,h2⟩
   ·rcases List.mem_cons.mp h with e | h
    ·cases e;exact .inr ⟨hk▸List.mem_cons_self,rfl⟩
    ·exact .inl h
   ·exact .inr ⟨List.mem_cons_of_mem _ h1,h2⟩
  ·rcases zgb h with h | ⟨h1,h2⟩
   ·exact .inl h
   ·exact .inr ⟨List.mem_cons_of_mem _ h1,h2⟩
theorem zib {cells:List (Str×Addr)}:∀ {names:List (Str×NameKind)} {acc:List (Str×Addr)} {p:Str×Addr},p∈acc→p∈cloFrom cells names acc
 | [],_,_,h=>h
 | (m,k)::r,acc,p,h=>by
  unfold cloFrom;split
  ·exact zib (List.mem_cons_of_mem _ h)
  ·exact zib h
theorem zia {cells:List (Str×Addr)}:∀ {names:List (Str×NameKind)} {acc:List (Str×Addr)} {n:Str},(n,.free)∈names→(n,(cells.lookup n).getD 0)∈cloFrom cells names acc
 | (m,k)::r,acc,n,h=>by
  unfold cloFrom;rcases List.mem_cons.mp h with e | h
  ·cases e;exact zib List.mem_cons_self
  ·split
   ·exact zia h
   ·exact zia h
theorem zhe:∀ {names:List (Str×NameKind)} {h:Heap} {acc:List (Str×Addr)} {x:Str} {c:Addr},(x,c)∈cellsFrom h.objs.size names acc→
  (x,c)∈acc∨((x,.cell)∈names∧h.objs.size≤c∧CellAt (pushCells h names) c none)
 | [],_,_,_,_,h=>.inl h
 | (n,k)::r,h,acc,x,c,hm=>by
  unfold cellsFrom at hm;unfold pushCells;split at hm
  ·rename_i hk
   rw [if_pos hk];have hk:k=.cell:=by simpa using hk
   rw [←Heap.size_push h {cls:=.type "cell",data:=.cell none}] at hm;rcases zhe hm with hm | ⟨h1,h2,h3⟩
   ·rcases List.mem_cons.mp hm with e | hm
    ·cases e;exact .inr ⟨hk▸List.mem_cons_self,Nat.le_refl _,_,pushCells_keeps r _ _ _ (Heap.get?_push_size _ rfl),rfl⟩
    ·exact .inl hm
   ·rw [Heap.size_push] at h2;exact .inr ⟨List.mem_cons_of_mem _ h1,Nat.le_of_succ_le h2,h3⟩
  ·rename_i hk
   rw [if_neg hk];rcases zhe hm with hm | ⟨h1,h2,h3⟩
   ·exact .inl hm
   ·exact .inr ⟨List.mem_cons_of_mem _ h1,h2,h3⟩
theorem zi3:∀ {names:List (Str×NameKind)} {n:Nat} {acc:List (Str×Addr)} {p:Str×Addr},p∈acc→p∈cellsFrom n names acc
 | [],_,_,_,h=>h
 | (m,k)::r,n,acc,p,h=>by
  unfold cellsFrom;split
  ·exact zi3 (List.mem_cons_of_mem _ h)
  ·exact zi3 h
theorem zmb:∀ {names:List (Str×NameKind)} {n:Nat} {acc:List (Str×Addr)} {x:Str},(x,.cell)∈names→∃ c,(x,c)∈cellsFrom n names acc
 | (m,k)::r,n,acc,x,h=>by
  unfold cellsFrom;rcases List.mem_cons.mp h with e | h
  ·cases e;exact ⟨n,zi3 List.mem_cons_self⟩
  ·split
   ·exact zmb h
   ·exact zmb h
theorem zma:∀ {names:List (Str×NameKind)} {h:Heap} {acc:List (Str×Addr)} {x y:Str} {c:Addr},(∀ p∈acc,p.2<h.objs.size)→(∀ x y c,(x,c)∈acc→(y,c)∈acc→x=y)→
  (x,c)∈cellsFrom h.objs.size names acc→(y,c)∈cellsFrom h.objs.size names acc→x=y
 | [],_,_,_,_,_,_,hi,h1,h2=>hi _ _ _ h1 h2
 | (n,k)::r,h,acc,x,y,c,hl,hi,h1,h2=>by
  unfold cellsFrom at h1 h2;split at h1
  ·rename_i hk
   rw [if_pos hk] at h2;rw [←Heap.size_push h {cls:=.type "cell",data:=.cell none}] at h1 h2;refine zma (h:=h.push _) (fun p hp=>?_) (fun x y c a b=>?_) h1 h2
   ·rw [Heap.size_push];rcases List.mem_cons.mp hp with rfl | hp
    ·exact Nat.lt_succ_self _
    ·exact Nat.lt_succ_of_lt (hl p hp)
   ·rcases List.mem_cons.mp a with e | a <;> rcases List.mem_cons.mp b with e' | b
    ·cases e;cases e';rfl
    ·cases e;exact absurd (hl _ b) (Nat.lt_irrefl _)
    ·cases e';exact absurd (hl _ a) (Nat.lt_irrefl _)
    ·exact hi _ _ _ a b
  ·rename_i hk
   rw [if_neg hk] at h2;exact zma hl hi h1 h2
theorem ztq {M:Model}{A:Around}{E:Value→Shared→Prop}{s:Shared}{scope:Scope}{globals:Addr}{closure:List (Str×Addr)}{qual:Str}{func:Option Addr}{code:Value}{around:Env}{builtins:Addr}{Q:Env→Shared→Prop}(h:Q (newEnv scope s.heap.objs.size globals (cellsFrom (s.heap.objs.size+1) scope.names closure) qual func code (some around) builtins)
   {s with heap:=pushCells (s.heap.push {cls:=.type "dict",data:=.dict #[]}) scope.names}):
  wpAny M A (newFunctionEnv scope globals closure [] qual func code (some around) builtins) Q E s:=by
 simp only [newFunctionEnv,Option.isSome_some,if_true];refine wpAny_bind (wpAny_alloc ?_);refine wpAny_bind (wpAny_layCells _ (fun n k c=>rfl) scope.names closure _ _ ?_);rw [show ({s with heap:=s.heap.push {cls:=.type "dict",data:=.dict #[]}}:Shared).heap.objs.size=s.heap.objs.size+1 from Heap.size_push ..]
 rw [List.forIn_nil];exact wpAny_bind (wpAny_pure (wpAny_pure h))
theorem zh7 {sc:Scope}:∀ {names:List (Str×NameKind)} {x:Str} {k:NameKind},
  (names.map fun (n,k)=>if (k==NameKind.free&&sc.kind==.function&&sc.names.lookup n==some .cell) then (n,NameKind.cell) else (n,k)).lookup x=some k→
  ∃ k',names.lookup x=some k'∧(k=k'∨(k'=.free∧k=.cell))
 | [],_,_,h=>by simp at h
 | (n,k₀)::r,x,k,h=>by
  have ih:=@zh7 sc r x k;have h':List.lookup x ((if (k₀==NameKind.free&&sc.kind==.function&&sc.names.lookup n==some .cell)=true then (n,NameKind.cell) else (n,k₀))::(r.map _))=some k:=h
  cases hx:x==n with
  | true=>
   simp only [List.lookup_cons,hx];by_cases hc:(k₀==NameKind.free&&sc.kind==.function&&sc.names.lookup n==some .cell)=true
   ·rw [if_pos hc] at h';simp only [List.lookup_cons,hx] at h';cases h';simp only [Bool.and_eq_true,beq_iff_eq] at hc;exact ⟨k₀,rfl,.inr ⟨hc.1.1,rfl⟩⟩
   ·rw [if_neg hc] at h';simp only [List.lookup_cons,hx] at h';cases h';exact ⟨_,rfl,.inl rfl⟩
  | false=>
   simp only [List.lookup_cons,hx];by_cases hc:(k₀==NameKind.free&&sc.kind==.function&&sc.names.lookup n==some .cell)=true
   ·rw [if_pos hc] at h';simp only [List.lookup_cons,hx] at h';exact ih h'
   ·rw [if_neg hc] at h';simp only [List.lookup_cons,hx] at h';exact ih h'
structure BlkOk (N:List Str)(sc scope:Scope)(own:List (Str×Nat)):Prop where
 kind:scope.kind=.function
 uniq:∀ y∈scope.names,scope.names.lookup y.1=some y.2
 ix:∀ p∈own,N[p.2]? = some p.1
 free:∀ y∈scope.names,y.2=.free→sc.names.lookup y.1=some .cell∨sc.names.lookup y.1=some .free
 own:∀ y∈scope.names,y.2=.local∨y.2=.cell→y.1∈own.map (·.1)∨y.1∉N
def wipe (σ:St):List Nat→St
 | []=>σ
 | v::vs=>(wipe σ vs).set v none
theorem zh3 (σ:St):∀ vs:List Nat,(wipe σ vs).length=σ.length
 | []=>rfl
 | v::vs=>by unfold wipe;rw [List.length_set,zh3 σ vs]
theorem zlb {σ:St}{i:Nat}{x:V}:∀ {vs:List Nat},(wipe σ vs)[i]? = some (some x)→σ[i]? = some (some x)∧i∉vs
 | [],h=>⟨h,by simp⟩
 | v::vs,h=>by
  unfold wipe at h;by_cases hi:v=i
  ·subst hi;by_cases hv:v<(wipe σ vs).length
   ·rw [List.getElem?_set_self hv] at h;cases h
   ·rw [List.getElem?_eq_none (by simpa using hv)] at h;cases h
  ·rw [List.getElem?_set_ne hi] at h;obtain ⟨h1,h2⟩:=zlb h;exact ⟨h1,by simp only [List.mem_cons,not_or];exact ⟨fun e=>hi e.symm,h2⟩⟩
abbrev Cx.blk (X:Cx)(s:Shared)(H:Hp)(scope:Scope)(cenv:Env)(fp:List Addr):Cx:={X with s_0:=s,H_0:=H,env:=cenv,outer:=X.stack,ex:=fp,fn:=fun x=>scope.names.lookup x==some .cell,pn:=[],xe:=fun _ _=>False}
section
variable {X:Cx}{pins:List (Addr×Obj)}{σ:St}{H:Hp}{s:Shared}
theorem zug {scope:Scope}{own:List (Str×Nat)}{fp:List Addr}(I:Inv X pins σ H s)(ok:BlkOk X.N X.env.scope scope own)(hN:X.N.Nodup)(hfp:∀ b∈fp,FpOk X pins H b∧b<s.heap.objs.size):
  Inv (X.blk s H scope (compEnvC scope (cellsFrom (s.heap.objs.size+1) scope.names (cloFrom X.env.cells scope.names [])) s.heap.objs.size X.env) fp) [] (wipe σ (own.map (·.2))) H {s with heap:=pushCells (s.heap.push {cls:=.type "dict",data:=.dict #[]}) scope.names}:=by
 have hfree:∀ y∈scope.names,y.2=.free→∃ c,X.env.cells.lookup y.1=some c:=fun y hy e=>by
  rcases ok.free y hy e with k | k
  ·exact I.ok.has _ (.inl k)
  ·exact I.ok.has _ (.inr k)
 generalize hcenv:compEnvC scope (cellsFrom (s.heap.objs.size+1) scope.names (cloFrom X.env.cells scope.names [])) s.heap.objs.size X.env=cenv
 have kp:∀ b o,s.heap.get? b=some o→(pushCells (s.heap.push {cls:=.type "dict",data:=.dict #[]}) scope.names).get? b=some o:=fun b o e=>pushCells_keeps _ _ _ _ (Heap.get?_push_of_some _ e);have hL:cenv.locals=s.heap.objs.size:=by rw [←hcenv];rfl
 have hcl:cenv.cells=cellsFrom (s.heap.objs.size+1) scope.names (cloFrom X.env.cells scope.names []):=by rw [←hcenv];rfl
 have hsc:cenv.scope=relS scope X.env.scope:=by rw [←hcenv];rfl
 rw [←Heap.size_push s.heap {cls:=.type "dict",data:=.dict #[]}] at hcl;have cm:∀ {y c},(y,c)∈cloFrom X.env.cells scope.names []→X.env.cells.lookup y=some c∧c<s.heap.objs.size:=fun {y c} hm=>by
  rcases zgb hm with hm | ⟨h1,rfl⟩
  ·cases hm
  ·obtain ⟨c,hc⟩:=hfree _ h1 rfl;rw [hc];obtain ⟨w,z⟩:=I.cell _ _ hc;exact ⟨rfl,z.lt⟩
 have mem:∀ {y c},cenv.cells.lookup y=some c→(X.env.cells.lookup y=some c∧c<s.heap.objs.size)∨(s.heap.objs.size+1≤c∧CellAt (pushCells (s.heap.push {cls:=.type "dict",data:=.dict #[]}) scope.names) c none):=fun {y c} e=>by
  rw [hcl] at e;rcases zhe (PySem.mem_of_lookup e) with hm | ⟨_,h2,h3⟩
  ·exact .inl (cm hm)
  ·rw [Heap.size_push] at h2;exact .inr ⟨h2,h3⟩
 have look:∀ {y},scope.names.lookup y=some .free→∃ c,cenv.cells.lookup y=some c∧X.env.cells.lookup y=some c:=fun {y} hl=>by
  have hy:(y,NameKind.free)∈scope.names:=PySem.mem_of_lookup hl;obtain ⟨c',e'⟩:=zjl (zi3 (names:=scope.names) (n:=(s.heap.push {cls:=.type "dict",data:=.dict #[]}).objs.size) (zia (cells:=X.env.cells) (acc:=[]) hy));rw [←hcl] at e';refine ⟨c',e',?_⟩;rw [hcl] at e';rcases zhe (PySem.mem_of_lookup e') with hm | ⟨h1,_,_⟩
  ·exact (cm hm).1
  ·have:=ok.uniq _ h1;rw [hl] at this;cases this
 have okB:(X.blk s H scope cenv fp).Ok:=by
  refine ⟨I.ok.mod,by show cenv.scope.kind=_;rw [hsc];exact ok.kind,by show cenv.globals=_;rw [←hcenv];exact I.ok.glob,by show cenv.builtins=_;rw [←hcenv];exact I.ok.blt,by show s.heap.objs.size≤cenv.locals;rw [hL];exact Nat.le_refl _,
   fun y z c e1 e2=>?_,fun y hy=>?_,fun y c z e=>?_,I.ok.hd,I.ok.frames,.inl rfl,fun b hb=>⟨?_,fun y c e z=>?_⟩,I.bs,Nat.le_trans I.ok.bsz I.sz,fun b o e hb=>?_,fun b hb z=>?_,I.stack,I.stkFree⟩
  ·have e1:cenv.cells.lookup y=some c:=e1;have e2:cenv.cells.lookup z=some c:=e2;rw [hcl] at e1 e2;refine zma (fun p hp=>?_) (fun y z c a b=>I.ok.inj y z c (cm a).1 (cm b).1) (PySem.mem_of_lookup e1) (PySem.mem_of_lookup e2);rw [Heap.size_push];exact Nat.lt_succ_of_lt (cm (y:=p.1) (c:=p.2) hp).2
  ·show ∃ c,cenv.cells.lookup y=some c;have key:∀ k,cenv.kindOf y=some k→(k=.cell∨k=.free)→∃ c,cenv.cells.lookup y=some c:=fun k hk hk'=>by
    unfold Env.kindOf at hk;rw [hsc] at hk;obtain ⟨k',e,r⟩:=zh7 hk;have:k'=.cell∨k'=.free:=by
     rcases r with rfl | ⟨rfl,_⟩
     ·exact hk'
     ·exact .inr rfl
    rcases this with rfl | rfl
    ·obtain ⟨c,hm⟩:=zmb (n:=(s.heap.push {cls:=.type "dict",data:=.dict #[]}).objs.size) (acc:=cloFrom X.env.cells scope.names []) (PySem.mem_of_lookup e);obtain ⟨c',e'⟩:=zjl hm;exact ⟨c',by rw [hcl];exact e'⟩
    ·obtain ⟨c,h1,_⟩:=look e;exact ⟨c,h1⟩
   rcases hy with hy | hy
   ·exact key _ hy (.inl rfl)
   ·exact key _ hy (.inr rfl)
  ·have z:(scope.names.lookup y==some NameKind.cell)=true:=z;have z:scope.names.lookup y=some .cell:=by simpa using z
   have e:cenv.cells.lookup y=some c:=e;rw [hcl] at e;rcases zhe (PySem.mem_of_lookup e) with hm | ⟨_,h2,_⟩
   ·rcases zgb hm with hm | ⟨h1,_⟩
    ·cases hm
    ·have q:=ok.uniq _ h1;rw [z] at q;cases q
   ·rw [Heap.size_push] at h2;exact Nat.le_of_succ_le h2
  ·show b≠cenv.locals;rw [hL];exact Nat.ne_of_lt (hfp b hb).2
  ·have e:cenv.cells.lookup y=some c:=e;rcases mem e with ⟨h1,_⟩ | ⟨h1,_⟩
   ·exact (hfp b hb).1.2.2.2.2.1 y c h1 z
   ·have h2:s.heap.objs.size+1≤b:=by rw [←z];exact h1
    exact absurd (Nat.lt_of_lt_of_le (hfp b hb).2 (Nat.le_of_succ_le h2)) (Nat.lt_irrefl _)
  ·rcases (hfp b hb).1.2.2.2.1 with z | z
   ·exact I.ok.noex b o e z
   ·exact absurd (Nat.lt_of_lt_of_le (Heap.lt_size e) (Nat.le_trans I.ok.bsz z)) (Nat.lt_irrefl _)
  ·rcases List.mem_cons.mp (I.stkSub b z) with z | z
   ·exact (hfp b hb).1.2.1 z
   ·exact (hfp b hb).1.2.2.1 z
 refine ⟨okB,rfl,I.bare,Un.kept kp,⟨fun _=>none,?_,fun i y av e1 e2 e3=>?_⟩,fun y c e=>?_,?_,fun y c e=>?_,fun p hp=>?_,I.hok.kept kp,by rw [zh3];exact I.len⟩
 ·show Heap.Ns _ cenv.locals _;rw [hL];exact Heap.Ns.keeps (Heap.Ns.new ..) fun b o e=>pushCells_keeps _ _ _ _ e
 ·obtain ⟨e2,hne⟩:=zlb e2;have hfr:scope.names.lookup y=some .free∧(cenv.kindOf y=some .cell∨cenv.kindOf y=some .free):=by
   have key:∀ k,cenv.scope.names.lookup y=some k→k=.local∨k=.cell∨k=.free→scope.names.lookup y=some .free∧(cenv.kindOf y=some .cell∨cenv.kindOf y=some .free):=fun k hk hk'=>by
    have hk0:=hk;rw [hsc] at hk;obtain ⟨k',e,r⟩:=zh7 hk;have no:¬ (k'=.local∨k'=.cell):=fun hh=>by
     rcases ok.own _ (PySem.mem_of_lookup e) hh with e' | e'
     ·obtain ⟨p,hp,hpy⟩:=List.mem_map.mp e';have e3:=ok.ix p hp;have:p.1=y:=hpy;rw [this] at e3;exact hne (List.mem_map.mpr ⟨p,hp,zo9 hN e3 e1⟩)
     ·exact e' (List.mem_of_getElem? e1)
    rcases r with rfl | ⟨rfl,rfl⟩
    ·rcases hk' with rfl | rfl | rfl
     ·exact absurd (.inl rfl) no
     ·exact absurd (.inr rfl) no
     ·exact ⟨e,.inr hk0⟩
    ·exact ⟨e,.inl hk0⟩
   have e3:Vis cenv.scope y:=e3;rcases e3 with e3 | e3 | e3
   ·exact key _ e3 (.inl rfl)
   ·exact key _ e3 (.inr (.inl rfl))
   ·exact key _ e3 (.inr (.inr rfl))
  obtain ⟨m,hn,hl⟩:=I.loc;have hvis:Vis X.env.scope y:=(ok.free _ (PySem.mem_of_lookup hfr.1) rfl).elim (fun k=>.inr (.inl k)) (fun k=>.inr (.inr k));obtain ⟨w,r,q⟩:=hl i y av e1 e2 hvis;refine ⟨w,r,.inr ⟨hfr.2,?_⟩⟩;obtain ⟨c,h1,h2⟩:=look hfr.1;rcases q with ⟨k,_⟩ | ⟨_,c',e',z⟩
  ·have k:X.env.scope.names.lookup y=some .local:=k;rcases ok.free _ (PySem.mem_of_lookup hfr.1) rfl with k' | k' <;> rw [show X.env.scope.names.lookup y=_ from k'] at k <;> cases k
  ·rw [h2] at e';cases e';exact ⟨c,h1,z.keeps kp⟩
 ·have e:cenv.cells.lookup y=some c:=e;rcases mem e with ⟨h1,_⟩ | ⟨_,z⟩
  ·obtain ⟨w,z⟩:=I.cell y c h1;exact ⟨w,z.keeps kp⟩
  ·exact ⟨_,z⟩
 ·show H cenv.locals=none;rw [hL];exact I.hok.fresh (Nat.le_refl _)
 ·have e:cenv.cells.lookup y=some c:=e;rcases mem e with ⟨h1,_⟩ | ⟨h1,_⟩
  ·exact I.freeC y c h1
  ·exact I.hok.fresh (Nat.le_of_succ_le h1)
 ·exact absurd (show p∈([]:List (Addr×Obj))++[] from hp) (by simp)
theorem app_ok {E:Value→Shared→Prop}{D:Addr}{xs:List V}{y:V}{v:Value}{Q:Value→Shared→Prop}(I:Inv X pins σ H s)(hD:H D=some (.lst xs))(hz:xs.length<sizeLine)(r:RelV y v)(h:∀ s',Inv X pins σ (upd H D (.lst (xs++[y]))) s'→Q .none s'):wpAny (model X.prog X.w) X.A (call (.builtin "list.append") [.ref D,v]) Q E s:=by
 obtain ⟨hz',its,n,ri,e⟩:=I.hok D _ hD;have hl:=ri.length;refine append_at (hsz:=by rw [List.size_toArray];omega) e fun h' sb ho'=>?_
 refine h {s with heap:=h'} (I.write (t':=s.toks) (by rw [hD];trivial) (.inl rfl) (fun b u hb q=>(sb.2 b hb).trans q) ⟨_,ho'⟩ ⟨by rw [List.length_append];exact hz,its++[v],n+1,ri.append (.cons r .nil),?_⟩)
 rw [ho'];simp
def PTs (X:Cx)(ifs:List Expr)(t:TT):Prop:=
 ∀ (pins:List (Addr×Obj)) (s:Shared) (σ:St) (H:Hp) (Q:Bool→Hp→Prop),Inv X pins σ H s→t σ H Q→
  wpAny (model X.prog X.w) X.A (forIn ifs true fun c r=>if r=true then do let ok←isTrue c X.env (eval c X.env);pure (ForInStep.yield ok) else pure (ForInStep.yield r)) (TP X pins σ Q) X.xe s
def tYes:TT:=fun _ H Q=>Q true H
theorem zln:PTs X [] tYes:=fun _ _ _ H _ I h=>wpAny_tests_nil ⟨H,I,h⟩
theorem zti {c:Expr}{t:TT}(h:PT X c t):PTs X [c] t:=fun pins s σ H Q I hw=>wpAny_tests_one (h pins s σ H Q I hw)
end
theorem thnF {α:Type}{t:Sem α}{Q Q':α→Shared→Prop}{M:Model}{A:Around}{E:Value→Shared→Prop}{s:Shared}(h:wpAny M A t Q (fun _ _=>False) s)(hQ:∀ a s,Q a s→Q' a s):wpAny M A t Q' E s:=wpAny_mono h hQ fun _ _ z=>False.elim z
theorem zsb {prog:Program}{w:World}{A:Around}{R:Result→Shared→Prop}{s:Shared}{elt target iter:Expr}{ifs:List Expr}{scope:Scope}{pos:Pos}{it acc:Value}{env:Env}(I:Nat→Shared→Prop)(turn:∀ n s,I n s→wpAny (model prog w) A (pyNext it) (fun r s₁=>match r with
   | none=>R (.ok .next) s₁
   | some v=>wpAny (model prog w) A (letOwnedTupleGo target it v) (fun _ s₁'=>wpAny (model prog w) A (assign target env v) (fun _ s₂=>
     wpAny (model prog w) A (forIn ifs true fun c r=>if r=true then do let ok←isTrue c env (eval c env);pure (ForInStep.yield ok) else pure (ForInStep.yield r)) (fun ok s₃=>
      if ok=true then wpAny (model prog w) A (eval elt env) (fun x s₄=>
       wpAny (model prog w) A (call (.builtin "list.append") [acc,x]) (fun _ s₅=>∃ m,m<n∧I m s₅) (notedBy (model prog w) A env fun e s'=>R (.error e) s') s₄) (notedBy (model prog w) A env fun e s'=>R (.error e) s') s₃
      else ∃ m,m<n∧I m s₃) (notedBy (model prog w) A env fun e s'=>R (.error e) s') s₂) (notedBy (model prog w) A env fun e s'=>R (.error e) s') s₁') (notedBy (model prog w) A env fun e s'=>R (.error e) s') s₁) (notedBy (model prog w) A env fun e s'=>R (.error e) s') s)(n:Nat)(h:I n s):
  codeAny (model prog w) A (.compLoop (.ListComp elt [⟨target,iter,ifs,0⟩] scope pos) 0 it acc env) R s:=by
 refine codeAny_loop rfl I (fun n s hI=>?_) n h;show wpAny _ A ((compTurn (.ListComp elt [⟨target,iter,ifs,0⟩] scope pos) 0 it acc env).onRaise (fun x=>do noteFrame x env;theTreesLotGoes x)) _ _ s
 refine wpAny_noted ?_;rw [compTurn_list];refine wpAny_bind (wpAny_standAt (wpAny_bind (wpAny_mono (turn n s hI) (fun r s₁ h₁=>?_) fun _ _ h'=>h')));cases r with
 | none=>exact wpAny_pure h₁
 | some v=>
  refine wpAny_bind (wpAny_mono h₁ (fun _ s₁' h₁'=>?_) fun _ _ h'=>h');refine wpAny_bind (wpAny_mono h₁' (fun _ s₂ h₂=>wpAny_bind (wpAny_mono h₂ (fun ok s₃ h₃=>?_) fun _ _ h'=>h')) fun _ _ h'=>h');cases ok with
  | false=>exact wpAny_pure ⟨rfl,h₃⟩
  | true=>
   exact wpAny_bind (wpAny_bind (wpAny_mono h₃ (fun x s₄ h₄=>wpAny_bind (wpAny_mono h₄ (fun _ s₅ h₅=>wpAny_pure (wpAny_pure ⟨rfl,h₅⟩)) fun _ _ h'=>h')) fun _ _ h'=>h'))
section
variable {X:Cx}
def tLc (wi:TI)(g:TG)(tt:TT)(te:TE)(vs:List Nat):TE:=fun σ H Q=>wi σ H fun J H1=>∀ D,H1 D=none→∃ W:Nat→Nat→Hp→Prop,(∃ m,W 0 m (upd H1 D (.lst [])))∧∀ i m H,W i m H→
 (J.stop i H∧Q (.ref D) H)∨(J.go i H∧∃ Nx:Hp→Prop,(∀ H',Nx H'→∃ m',m'<m∧W (i+1) m' H')∧∀ x H',J.yld i H x H'→g x (wipe σ vs) H' fun σ2 H2=>wipe σ2 vs=wipe σ vs∧tt σ2 H2 fun b H3=>
  if b=true then te σ2 H3 fun y H4=>∃ acc,H4 D=some (.lst acc)∧acc.length<sizeLine∧Nx (upd H4 D (.lst (acc++[y]))) else Nx H3)
theorem lc_core {pins:List (Addr×Obj)}{s:Shared}{σ:St}{H:Hp}{Q:VK}{elt tg iter:Expr}{ifs:List Expr}{scope:Scope}{own:List (Str×Nat)}{pos pos':Pos}{wi:TI}{g:TG}{tt:TT}{te:TE}{use:Option (Value→Sem Unit)}{Qf:Value→Shared→Prop}(hc:X.calm=true)(hN:X.N.Nodup)(I:Inv X pins σ H s)(hi:PI X tg iter wi)(ok:BlkOk X.N X.env.scope scope own)(hg:∀ (s:Shared) (H:Hp) (C:Addr) (cl:List (Str×Addr)) (fp:List Addr),PG (X.blk s H scope (compEnvC scope cl C X.env) fp) tg g)(ht:∀ (s:Shared) (H:Hp) (C:Addr) (cl:List (Str×Addr)) (fp:List Addr),PTs (X.blk s H scope (compEnvC scope cl C X.env) fp) ifs tt)(he:∀ (s:Shared) (H:Hp) (C:Addr) (cl:List (Str×Addr)) (fp:List Addr),PE (X.blk s H scope (compEnvC scope cl C X.env) fp) elt te)(hs:∀ x,foldedSetIterable iter X.env x=pure x)(h:tLc wi g tt te (own.map (·.2)) σ H Q)(hRR:∀ D C s' m H',Inv X pins σ H' s'→Q (.ref D) H'→s'.heap.Ns C m→FpOk X pins H' C→compPost (model X.prog X.w) X.A X.xe use Qf (.ref D) C (.ok .next) s'):
  wpAny (model X.prog X.w) X.A (comprehension (.ListComp elt [⟨tg,iter,ifs,0⟩] scope pos) scope X.env pos' (newList []) false (eval iter X.env) use) Qf X.xe s:=by
 have hfree:∀ y∈scope.names,y.2=.free→∃ c,X.env.cells.lookup y.1=some c:=fun y hy e=>by
  rcases ok.free y hy e with k | k
  ·exact I.ok.has _ (.inl k)
  ·exact I.ok.has _ (.inr k)
 refine wpAny_comprehension_free (use:=use) rfl hs (zw3 hfree) ok.kind (fun y hy e=>by rw [ok.uniq y hy,e])
  (thn (hi pins s σ H _ I h) fun xv s1 hx=>thn hx fun itv s2 h2=>?_)
 obtain ⟨it,fp,tn,J,H2,e,I2,T,st2,f2,q⟩:=h2;subst e;refine wpAny_newObj_type (ztq ?_) (by show 0≤sizeLine;decide)
 generalize hD:s2.heap.objs.size=D
 have hDn:H2 D=none:=I2.hok.fresh (Nat.le_of_eq hD);obtain ⟨W,⟨m0,w0⟩,turn⟩:=q D hDn;generalize hs3:({s2 with heap:=s2.heap.push {cls:=.type "list",data:=.seq ([]:List Value).toArray}}:Shared)=s3
 have I3:Inv X pins σ (upd H2 D (.lst [])) s3:=by
  rw [←hs3];refine I2.laid (t':=s2.toks) (fun b o e=>Heap.get?_push_of_some _ e) (Nat.le_of_eq hD) ⟨Nat.zero_le _,[],0,.nil,?_⟩;rw [←hD];exact Heap.get?_push_size _ rfl
 have h3:s3.heap=s2.heap.push {cls:=.type "list",data:=.seq ([]:List Value).toArray}:=by rw [←hs3]
 have sz:∀ b∈fp,b<s2.heap.objs.size:=fun b hb=>by
  obtain ⟨o,e,_⟩:=T.obj _ _ st2 b hb;exact Heap.lt_size e
 have f3:∀ b∈fp,FpOk X pins (upd H2 D (.lst [])) b∧b<s3.heap.objs.size:=fun b hb=>by
  have hlt:=sz b hb;refine ⟨⟨?_,(f2 b hb).2⟩,by rw [h3,Heap.size_push];exact Nat.lt_succ_of_lt hlt⟩
  rw [zac (by rw [←hD];exact Nat.ne_of_lt hlt)]
  exact (f2 b hb).1
 have st3:tn 0 s3.heap:=T.keep _ _ _ st2 fun b _ o e=>by rw [h3];exact Heap.get?_push_of_some _ e
 have I4:=zug I3 ok hN f3;have pg:=hg s3 (upd H2 D (.lst [])) s3.heap.objs.size (cellsFrom (s3.heap.objs.size+1) scope.names (cloFrom X.env.cells scope.names [])) fp;have pt:=ht s3 (upd H2 D (.lst [])) s3.heap.objs.size (cellsFrom (s3.heap.objs.size+1) scope.names (cloFrom X.env.cells scope.names [])) fp;have pe:=he s3 (upd H2 D (.lst [])) s3.heap.objs.size (cellsFrom (s3.heap.objs.size+1) scope.names (cloFrom X.env.cells scope.names [])) fp;show codeAny _ _ (.compStart (.ListComp elt [⟨tg,iter,ifs,0⟩] scope pos) 0 (.ref it) (.ref D) (compEnvC scope (cellsFrom (s3.heap.objs.size+1) scope.names (cloFrom X.env.cells scope.names [])) s3.heap.objs.size X.env)) (compPost (model X.prog X.w) X.A X.xe use Qf (.ref D) s3.heap.objs.size) {s3 with heap:=pushCells (s3.heap.push {cls:=.type "dict",data:=.dict #[]}) scope.names};have nfp:∀ b∈fp,(upd H2 D (.lst [])) b=none:=fun b hb=>(f3 b hb).1.1;generalize hce:compEnvC scope (cellsFrom (s3.heap.objs.size+1) scope.names (cloFrom X.env.cells scope.names [])) s3.heap.objs.size X.env=ce at I4 pg pt pe ⊢
 have cL:ce.locals=s3.heap.objs.size:=by subst hce;rfl
 generalize hH3:upd H2 D (.lst [])=H3 at I3 I4 pg pt pe w0 nfp f3
 generalize hs4:({s3 with heap:=pushCells (s3.heap.push {cls:=.type "dict",data:=.dict #[]}) scope.names}:Shared)=s4 at I4 ⊢
 have st4:tn 0 s4.heap:=T.keep _ _ _ st3 fun b _ o e=>by rw [←hs4];exact pushCells_keeps _ _ _ _ (Heap.get?_push_of_some _ e)
 have stat:∀ {σ':St} {H':Hp} {s':Shared},Inv (X.blk s3 H3 scope ce fp) [] σ' H' s'→(∀ b∈fp,H' b=none)→∀ b∈fp,FpOk (X.blk s3 H3 scope ce fp) [] H' b:=fun {σ' H' s'} I' hn b hb=>
  ⟨hn b hb,(I'.ok.exf b hb).1,I'.ok.exfs b hb,.inl hb,fun x c e=>(I'.ok.exf b hb).2 x c e,fun p hp=>absurd (show p∈([]:List (Addr×Obj))++[] from hp) (by simp)⟩
 have loop:codeAny (model X.prog X.w) X.A (.compLoop (.ListComp elt [⟨tg,iter,ifs,0⟩] scope pos) 0 (.ref it) (.ref D) ce) (compPost (model X.prog X.w) X.A X.xe use Qf (.ref D) s3.heap.objs.size) s4:=by
  refine zsb (fun n s'=>∃ i H',Inv (X.blk s3 H3 scope ce fp) [] (wipe σ (own.map (·.2))) H' s'∧tn i s'.heap∧(∀ b∈fp,H' b=none)∧W i n H') ?_ m0 ⟨0,H3,I4,st4,nfp,w0⟩;rintro n s5 ⟨i,H5,I5,st5,n5,w5⟩;rcases turn i n H5 w5 with ⟨stop,qq⟩ | ⟨go,Nx,hNx,step⟩
  ·have td:=T.done (X.blk s3 H3 scope ce fp) rfl rfl rfl hc i [] s5 _ H5 (fun _ _=>False) I5 (stat I5 n5) st5 stop;refine thnF td fun r s6 ⟨hr,I6⟩=>?_;subst hr;have I7:Inv X pins σ H5 s6:=I3.call' (ch:=fp) I6.os I6.base I6.hok I6.bare fun b hb=>⟨(f3 b hb).1.2.2.2.1,(f3 b hb).1.2.1,(f3 b hb).1.2.2.2.2.1,(f3 b hb).1.2.2.2.2.2⟩;have nC:H5 s3.heap.objs.size=none:=by
    have z:H5 ce.locals=none:=I6.free;rw [cL] at z;exact z
   obtain ⟨m,hn,_⟩:=I6.loc;have hn:s6.heap.Ns ce.locals m:=hn;rw [cL] at hn;exact hRR D s3.heap.objs.size s6 m H5 I7 qq hn (I3.fpOk (Nat.le_refl _) nC)
  ·have ti:=T.item (X.blk s3 H3 scope ce fp) rfl rfl rfl hc i [] s5 _ H5 (fun _ _=>False) I5 (stat I5 n5) st5 go;refine thnF ti fun r s6 ⟨u,hr,h6⟩=>?_;subst hr;refine thnF h6 fun _ s7 ⟨x,H7,I7,r7,y7,st7,n7⟩=>?_;have I7':=I7.pinned (stat I7 n7) (T.obj _ _ st7);refine thnF (pg _ s7 _ H7 x u _ I7' r7 (step x H7 y7)) fun _ s8 ⟨σ8,H8,I8,hw8,q8⟩=>?_;refine thnF (pt _ s8 σ8 H8 _ I8 q8) fun b s9 ⟨H9,I9,q9⟩=>?_;have fin:∀ {s':Shared} {H':Hp},Inv (X.blk s3 H3 scope ce fp) ([]++pinsAt fp s7.heap) σ8 H' s'→Nx H'→∃ m,m<n∧∃ i H',Inv (X.blk s3 H3 scope ce fp) [] (wipe σ (own.map (·.2))) H' s'∧tn i s'.heap∧(∀ b∈fp,H' b=none)∧W i m H':=fun {s' H'} I' nx=>by
    obtain ⟨m',hm,w'⟩:=hNx H' nx;have pin':∀ b∈fp,∀ o,s7.heap.get? b=some o→s'.heap.get? b=some o∧H' b=none:=fun b hb o e=>
     let z:=I'.pin (b,o) (List.mem_append_right _ (List.mem_append_right _ (zfi hb e)))
     ⟨z.1,z.2.1⟩
    have hl:(wipe σ (own.map (·.2))).length=σ8.length:=by rw [←hw8,zh3]
    refine ⟨m',hm,i+1,H',(I'.unpinned (pins:=[])).weak hl (fun j v e=>?_),T.keep _ _ _ st7 fun b hb o e=>(pin' b hb o e).1,fun b hb=>?_,w'⟩
    ·rw [←hw8] at e;exact (zlb e).1
    ·obtain ⟨o,e,_⟩:=T.obj _ _ st7 b hb;exact (pin' b hb o e).2
   cases b with
   | false=>
    simp only [Bool.false_eq_true,if_false] at q9 ⊢;exact fin I9 q9
   | true=>
    simp only [if_true] at q9 ⊢;refine thnF (pe _ s9 σ8 H9 _ I9 q9) fun z s10 ⟨yv,H10,I10,r10,acc,hD10,hz10,nx⟩=>?_;exact app_ok (X:=X.blk s3 H3 scope ce fp) I10 hD10 hz10 r10 fun s11 I11=>fin I11 nx
 exact codeAny_compStart_list loop (T.self X.A 0 _ _ _ st4 loop)
theorem ztk {elt tg iter:Expr}{ifs:List Expr}{scope:Scope}{own:List (Str×Nat)}{pos:Pos}{wi:TI}{g:TG}{tt:TT}{te:TE}(hc:X.calm=true)(hN:X.N.Nodup)(hi:PI X tg iter wi)(ok:BlkOk X.N X.env.scope scope own)(hg:∀ (s:Shared) (H:Hp) (C:Addr) (cl:List (Str×Addr)) (fp:List Addr),PG (X.blk s H scope (compEnvC scope cl C X.env) fp) tg g)(ht:∀ (s:Shared) (H:Hp) (C:Addr) (cl:List (Str×Addr)) (fp:List Addr),PTs (X.blk s H scope (compEnvC scope cl C X.env) fp) ifs tt)(he:∀ (s:Shared) (H:Hp) (C:Addr) (cl:List (Str×Addr)) (fp:List Addr),PE (X.blk s H scope (compEnvC scope cl C X.env) fp) elt te)(hs:∀ x,foldedSetIterable iter X.env x=pure x:=by intro _;rfl):
  PE X (.ListComp elt [⟨tg,iter,ifs,0⟩] scope pos) (tLc wi g tt te (own.map (·.2))):=by
 intro pins s σ H Q I h;rw [eval_ListComp];refine lc_core hc hN I hi ok hg ht he hs h fun D C s' m H' I' q hn f=>⟨m,hn,fun h'' sb=>?_⟩;obtain ⟨f0,f1,f2,f3,f4,f5⟩:=f;exact ⟨.ref D,H',I'.turned (t':=s'.toks) (fun b o hb e=>(sb.2 b hb).trans e) f0 f1 f3 f4 f5,rfl,q⟩
theorem ps_setLc {i:Nat}{y:Str}{py:Pos}{elt tg iter:Expr}{ifs:List Expr}{scope:Scope}{own:List (Str×Nat)}{pos spos:Pos}{wi:TI}{g:TG}{tt:TT}{te:TE}(hc:X.calm=true)(hN:X.N.Nodup)(hy:X.N[i]? = some y)(hyl:X.env.scope.names.lookup y=some .local)(hsw:swapsWith (.ListComp elt [⟨tg,iter,ifs,0⟩] scope pos) (some (.Name y py)) spos.line X.env=pure true)(hi:PI X tg iter wi)(ok:BlkOk X.N X.env.scope scope own)(hg:∀ (s:Shared) (H:Hp) (C:Addr) (cl:List (Str×Addr)) (fp:List Addr),PG (X.blk s H scope (compEnvC scope cl C X.env) fp) tg g)(ht:∀ (s:Shared) (H:Hp) (C:Addr) (cl:List (Str×Addr)) (fp:List Addr),PTs (X.blk s H scope (compEnvC scope cl C X.env) fp) ifs tt)(he:∀ (s:Shared) (H:Hp) (C:Addr) (cl:List (Str×Addr)) (fp:List Addr),PE (X.blk s H scope (compEnvC scope cl C X.env) fp) elt te)(hs:∀ x,foldedSetIterable iter X.env x=pure x:=by intro _;rfl):
  PS X (.Assign [.Name y py] (.ListComp elt [⟨tg,iter,ifs,0⟩] scope pos) spos) (tAsg (tLc wi g tt te (own.map (·.2))) (gName i)):=by
 intro pins s σ H D I h;rw [exec_Assign_Name_used _ _ _ _ hsw];refine wpAny_bind (wpAny_standAt (wpAny_bind ?_));show wpAny _ X.A (do let _←comprehension (.ListComp elt [⟨tg,iter,ifs,0⟩] scope pos) scope X.env (firstIterPos [⟨tg,iter,ifs,0⟩] pos) (newList []) false (eval iter X.env) (some (assign (.Name y py) X.env))) _ _ s
 have h:tLc wi g tt te (own.map (·.2)) σ H (fun x H1=>gName i x σ H1 D.nx):=h;refine wpAny_bind (thn (lc_core (Qf:=fun _ s'=>SP X pins D .next s') hc hN I hi ok hg ht he hs h fun L C s' m H' I' q hn f=>?_) fun _ s' hq=>wpAny_pure (wpAny_pure hq));show wpAny _ _ (assign (.Name y py) X.env (.ref L)) _ _ _;refine wpAny_assign_Name (zqq (v:=V.ref L) I' hN hy (.inl hyl) rfl (fun s2 I2 ⟨a,sb,ha⟩=>?_) (.inr hyl));obtain ⟨f0,f1,f2,f3,f4,f5⟩:=f;have haC:C≠a:=by
  rcases ha with z | z
  ·rw [z];exact f1
  ·exact fun e=>f4 y a z e.symm
 refine ⟨m,hn.sameBut sb haC,fun h3 sb3=>?_⟩;exact ⟨_,H',I2.turned (t':=s2.toks) (fun b o hb e=>(sb3.2 b hb).trans e) f0 f1 f3 f4 f5,q⟩
end
theorem lc_range {lo:Int}{n:Nat}{g:TG}{tt:TT}{te:TE}{vs:List Nat}{σ:St}{H1:Hp}{D:Addr}{Qd:Hp→Prop}(Pv:Nat→Hp→Prop)(h0:Pv 0 (upd H1 D (.lst [])))(hs:∀ i H,i<n→Pv i H→g (.int (lo+i)) (wipe σ vs) H fun σ2 H2=>wipe σ2 vs=wipe σ vs∧tt σ2 H2 fun b H3=>
   if b=true then te σ2 H3 fun y H4=>∃ acc,H4 D=some (.lst acc)∧acc.length<sizeLine∧Pv (i+1) (upd H4 D (.lst (acc++[y]))) else Pv (i+1) H3)(hd:∀ H,Pv n H→Qd H):
  ∃ W:Nat→Nat→Hp→Prop,(∃ m,W 0 m (upd H1 D (.lst [])))∧∀ i m H,W i m H→
   ((Itr lo n).stop i H∧Qd H)∨((Itr lo n).go i H∧∃ Nx:Hp→Prop,(∀ H',Nx H'→∃ m',m'<m∧W (i+1) m' H')∧∀ x H',(Itr lo n).yld i H x H'→g x (wipe σ vs) H' fun σ2 H2=>wipe σ2 vs=wipe σ vs∧tt σ2 H2 fun b H3=>
    if b=true then te σ2 H3 fun y H4=>∃ acc,H4 D=some (.lst acc)∧acc.length<sizeLine∧Nx (upd H4 D (.lst (acc++[y]))) else Nx H3):=by
 refine ⟨fun i m H=>m=n - i∧i≤n∧Pv i H,⟨n,by simp,Nat.zero_le _,h0⟩,?_⟩
 rintro i m H ⟨rfl,hi,p⟩;by_cases hlt:i<n
 ·refine .inr ⟨hlt,Pv (i+1),fun H' p'=>⟨n - (i+1),by omega,rfl,hlt,p'⟩,fun x H' y=>?_⟩
  obtain ⟨e,y⟩:=y;subst e y;exact hs i _ hlt p
 ·have e:i=n:=by omega
  subst e;exact .inl ⟨Nat.le_refl _,hd H p⟩
theorem zjo {K:PySem.W.Frag}{a:Addr}{xs:List V}{g:TG}{tt:TT}{te:TE}{vs:List Nat}{σ:St}{H1:Hp}{D:Addr}{Qd:Hp→Prop}(Pv:Nat→Hp→Prop)(h0:Pv 0 (upd H1 D (.lst [])))(hl:∀ i H,i≤xs.length→Pv i H→SqL K H a xs)(hs:∀ i x H,xs[i]? = some x→Pv i H→g x (wipe σ vs) H fun σ2 H2=>wipe σ2 vs=wipe σ vs∧tt σ2 H2 fun b H3=>
   if b=true then te σ2 H3 fun y H4=>∃ acc,H4 D=some (.lst acc)∧acc.length<sizeLine∧Pv (i+1) (upd H4 D (.lst (acc++[y]))) else Pv (i+1) H3)(hd:∀ H,Pv xs.length H→Qd H):
  ∃ W:Nat→Nat→Hp→Prop,(∃ m,W 0 m (upd H1 D (.lst [])))∧∀ i m H,W i m H→
   ((Itl K a).stop i H∧Qd H)∨((Itl K a).go i H∧∃ Nx:Hp→Prop,(∀ H',Nx H'→∃ m',m'<m∧W (i+1) m' H')∧∀ x H',(Itl K a).yld i H x H'→g x (wipe σ vs) H' fun σ2 H2=>wipe σ2 vs=wipe σ vs∧tt σ2 H2 fun b H3=>
    if b=true then te σ2 H3 fun y H4=>∃ acc,H4 D=some (.lst acc)∧acc.length<sizeLine∧Nx (upd H4 D (.lst (acc++[y]))) else Nx H3):=by
 refine ⟨fun i m H=>m=xs.length - i∧i≤xs.length∧Pv i H,⟨xs.length,by simp,Nat.zero_le _,h0⟩,?_⟩
 rintro i m H ⟨rfl,hi,p⟩;have q:=hl i H hi p;by_cases hlt:i<xs.length
 ·refine .inr ⟨⟨xs,xs[i],q,by simp [hlt]⟩,Pv (i+1),fun H' p'=>⟨xs.length - (i+1),by omega,rfl,hlt,p'⟩,fun x H' y=>?_⟩
  obtain ⟨e,y⟩:=y;subst e;exact hs i x _ (y xs q) p
 ·have e:i=xs.length:=by omega
  subst e;exact .inl ⟨⟨xs,q,Nat.le_refl _⟩,hd H p⟩
def blkC (N:List Str)(sc scope:Scope)(own:List (Str×Nat)):Bool:=
 (match scope.kind with | .function=>true | _=>false)&&(scope.names.all fun y=>decide (scope.names.lookup y.1=some y.2))&&(own.all fun p=>decide (N[p.2]? = some p.1)) &&
  (scope.names.all fun y=>match y.2 with
   | .free=>(match sc.names.lookup y.1 with | some .cell=>true | some .free=>true | _=>false)
   | .local=>decide (y.1∈own.map (·.1))||decide (y.1∉N)
   | .cell=>decide (y.1∈own.map (·.1))||decide (y.1∉N)
   | _=>true)
theorem ze0 {N:List Str}{sc scope:Scope}{own:List (Str×Nat)}(h:blkC N sc scope own=true):BlkOk N sc scope own:=by
 unfold blkC at h;simp only [Bool.and_eq_true,List.all_eq_true,decide_eq_true_eq] at h;obtain ⟨⟨⟨h1,h2⟩,h3⟩,h4⟩:=h;refine ⟨?_,h2,h3,fun y hy e=>?_,fun y hy e=>?_⟩
 ·split at h1
  ·assumption
  ·cases h1
 ·have q:=h4 y hy;simp only [e] at q;split at q <;> first | exact .inl (by assumption) | exact .inr (by assumption) | cases q
 ·have q:=h4 y hy;rcases e with e | e <;> (simp only [e,Bool.or_eq_true,decide_eq_true_eq] at q;exact q)
end L2
namespace L2
open PySem PySem.Spec PyProof.Rows
section
variable {prog:Program}{w:World}{A:Around}{R:Result→Shared→Prop}{s:Shared}{elt t0 i0 t1 i1:Expr}{ifs0 ifs1:List Expr}{scope:Scope}{pos:Pos}{it acc:Value}{env:Env}
end
section
variable {X:Cx}
end
end L2
namespace L2
open PySem PySem.Spec PyProof.Rows
section
variable {κ:Type}[DecidableEq κ]
def valV (kvs:List (κ×V))(k:κ):Option V:=(kvs.find? fun kv=>decide (kv.1=k)).map (·.2)
def putK (kvs:List (κ×V))(k:κ)(v:V):List (κ×V):=
 if (kvs.any fun kv=>decide (kv.1=k))=true then kvs.map (fun kv=>if kv.1=k then (kv.1,v) else kv) else kvs++[(k,v)]
theorem zn7 {p:κ×V}{r:List (κ×V)}{k:κ}(e:p.1=k):valV (p::r) k=some p.2:=by simp [valV,List.find?_cons,e]
theorem zn8 {p:κ×V}{r:List (κ×V)}{k:κ}(e:¬ p.1=k):valV (p::r) k=valV r k:=by simp [valV,List.find?_cons,e]
theorem zn9 (k:κ):∀ kvs:List (κ×V),(kvs.any fun kv=>decide (kv.1=k))=(valV kvs k).isSome
 | []=>rfl
 | p::r=>by
  rw [List.any_cons];by_cases e:p.1=k
  ·simp only [zn7 e,decide_eq_true e,Bool.true_or,Option.isSome_some]
  ·rw [zn8 e,decide_eq_false e,Bool.false_or];exact zn9 k r
theorem zh8 (kvs:List (κ×V))(k:κ)(v:V):(putK kvs k v).length≤kvs.length+1:=by
 unfold putK;split
 ·rw [List.length_map];omega
 ·rw [List.length_append,List.length_cons,List.length_nil];omega
theorem zil {kvs:List (κ×V)}{k:κ}(v:V)(h:valV kvs k=none):putK kvs k v=kvs++[(k,v)]:=by
 unfold putK;rw [zn9,h];exact if_neg (by decide)
theorem RelO.zha {o:Option V}{u:Option Value}(r:RelO o u):o.isSome=u.isSome:=by
 cases o with
 | none=>cases u with
  | none=>rfl
  | some _=>exact (show False from r).elim
 | some _=>cases u with
  | none=>exact (show False from r).elim
  | some _=>rfl
theorem RelO.getD {o:Option V}{u:Option Value}{d:V}{d':Value}(r:RelO o u)(rd:RelV d d'):RelV (o.getD d) (u.getD d'):=by
 cases o with
 | none=>cases u with
  | none=>exact rd
  | some _=>exact (show False from r).elim
 | some _=>cases u with
  | none=>exact (show False from r).elim
  | some _=>exact r
theorem KV.val {kvs:List (κ×V)}{vs:List (κ×Value)}(r:KV kvs vs)(k:κ):RelO (valV kvs k) (valueAt vs k):=by
 unfold KV at r;induction r with
 | nil=>exact True.intro
 | @cons p q ps qs h t ih=>
  obtain ⟨h1,h2⟩:=h;by_cases e:p.1=k
  ·have e':q.1=k:=h1.symm.trans e;have b:valueAt (q::qs) k=some q.2:=by simp [valueAt,List.find?_cons,e']
   rw [zn7 e,b];exact h2
  ·have e':¬ q.1=k:=fun z=>e (h1.trans z);have b:valueAt (q::qs) k=valueAt qs k:=by simp [valueAt,List.find?_cons,e']
   rw [zn8 e,b];exact ih
theorem KV.any {kvs:List (κ×V)}{vs:List (κ×Value)}(r:KV kvs vs)(k:κ):(kvs.any fun kv=>decide (kv.1=k))=vs.any fun kv=>decide (kv.1=k):=by
 unfold KV at r;induction r with
 | nil=>rfl
 | cons h t ih=>rw [List.any_cons,List.any_cons,ih,h.1]
theorem KV.repl {kvs:List (κ×V)}{vs:List (κ×Value)}(r:KV kvs vs)(k:κ){y:V}{u:Value}(ry:RelV y u):
  KV (kvs.map fun kv=>if kv.1=k then (kv.1,y) else kv) (vs.map fun kv=>if kv.1=k then (kv.1,u) else kv):=by
 unfold KV at r ⊢;induction r with
 | nil=>exact .nil
 | @cons p q ps qs h t ih=>
  rw [List.map_cons,List.map_cons];refine .cons ?_ ih;obtain ⟨h1,h2⟩:=h;by_cases e:p.1=k
  ·rw [if_pos e,if_pos (h1.symm.trans e)];exact ⟨h1,ry⟩
  ·rw [if_neg e,if_neg (fun z=>e (h1.trans z))];exact ⟨h1,h2⟩
theorem KV.put {kvs:List (κ×V)}{vs:List (κ×Value)}(r:KV kvs vs)(k:κ){y:V}{u:Value}(ry:RelV y u):KV (putK kvs k y) (stored vs k u):=by
 unfold putK stored;rw [r.any k];by_cases e:(vs.any fun kv=>decide (kv.1=k))=true
 ·rw [if_pos e,if_pos e];exact r.repl k ry
 ·rw [if_neg e,if_neg e];exact Paired.snoc r ⟨rfl,ry⟩
theorem KV.length {kvs:List (κ×V)}{vs:List (κ×Value)}(r:KV kvs vs):kvs.length=vs.length:=Paired.length r
end
theorem zpj {P:Program}{w:World}{k:Key}{u:Value}(r:RelV (kV k) u):(mixKind P w).is k u=true:=by
 cases k with
 | inl i=>obtain ⟨t,e⟩:=(show ∃ t,u=Value.int i t from r);subst e;exact ztt P w i t
 | inr x=>obtain ⟨t,e⟩:=(show ∃ t,u=Value.str x t from r);subst e;exact zts P w x t
theorem zry {P:Program}{w:World}:∀ {ks:List Key} {us:List Value},Vals (ks.map kV) us→ItemsAre (mixKind P w) ks us
 | [],_,r=>by rw [List.map_nil] at r;cases r;exact .nil
 | k::ks,_,r=>by
  rw [List.map_cons] at r;cases r with
  | cons h t=>exact .cons (zpj h) (zry t)
abbrev KT (H:Hp):List (List Key×V)→List (List Key×Addr×Value)→Prop:=Paired fun p q=>p.1=q.1∧H q.2.1=some (.tup (p.1.map kV))∧RelV p.2 q.2.2
theorem KT.val {H:Hp}{kvs:List (List Key×V)}{xs:List (List Key×Addr×Value)}(r:KT H kvs xs)(k:List Key):RelO (valV kvs k) ((atKey xs k).map (·.2)):=by
 induction r with
 | nil=>exact True.intro
 | @cons p q ps qs h t ih=>
  obtain ⟨h1,_,h2⟩:=h;by_cases e:p.1=k
  ·have e':q.1=k:=h1.symm.trans e;have b:atKey (q::qs) k=some q.2:=by simp [atKey,List.find?_cons,e']
   rw [zn7 e,b];exact h2
  ·have e':¬ q.1=k:=fun z=>e (h1.trans z);have b:atKey (q::qs) k=atKey qs k:=by simp [atKey,List.find?_cons,e']
   rw [zn8 e,b];exact ih
theorem KT.repl {H:Hp}{kvs:List (List Key×V)}{xs:List (List Key×Addr×Value)}(r:KT H kvs xs)(k:List Key){y:V}{u:Value}(ry:RelV y u):
  KT H (kvs.map fun kv=>if kv.1=k then (kv.1,y) else kv) (xs.map (putAt k u)):=by
 induction r with
 | nil=>exact .nil
 | @cons p q ps qs h t ih=>
  rw [List.map_cons,List.map_cons];refine .cons ?_ ih;obtain ⟨h1,h2,h3⟩:=h;unfold putAt;by_cases e:p.1=k
  ·rw [if_pos e,if_pos (h1.symm.trans e)];exact ⟨h1,h2,ry⟩
  ·rw [if_neg e,if_neg (fun z=>e (h1.trans z))];exact ⟨h1,h2,h3⟩
theorem KT.put {H:Hp}{kvs:List (List Key×V)}{xs:List (List Key×Addr×Value)}(r:KT H kvs xs)(k:List Key){b:Addr}{y:V}{u:Value}(hb:H b=some (.tup (k.map kV)))(ry:RelV y u):
  KT H (putK kvs k y) (storedH xs k b u):=by
 have e:(kvs.any fun kv=>decide (kv.1=k))=(atKey xs k).isSome:=by
  rw [zn9,(r.val k).zha,Option.isSome_map]
 unfold putK storedH;rw [e];by_cases q:(atKey xs k).isSome=true
 ·rw [if_pos q,if_pos q];exact r.repl k ry
 ·rw [if_neg q,if_neg q];exact Paired.snoc r ⟨rfl,hb,ry⟩
theorem KT.keeps {H H':Hp}{kvs:List (List Key×V)}{xs:List (List Key×Addr×Value)}(r:KT H kvs xs)(ht:∀ b ys,H b=some (.tup ys)→H' b=some (.tup ys)):KT H' kvs xs:=
 Paired.mapP r fun _ _ z=>⟨z.1,ht _ _ z.2.1,z.2.2⟩
section
variable {P:Program}{w:World}{H:Hp}{h:Heap}{a:Addr}
theorem rd_of {u:HO}(ok:HOk P w H h)(e:Rd H a u):ObjOk P w H h a u:=e.ok ok
theorem zpq {kvs:List (Key×V)}(ok:HOk P w H h)(e:Rd H a (.dK kvs)):kvs.length≤sizeLine∧(a==sysModules)=false∧∃ vs,KV kvs vs∧h.DictOf (mixKind P w) a vs:=
 show ObjOk P w H h a (.dK kvs) from rd_of ok e
theorem dk_of {kvs:List (Key×V)}(ok:HOk P w H h)(e:H a=some (.dK kvs)):kvs.length≤sizeLine∧(a==sysModules)=false∧∃ vs,KV kvs vs∧h.DictOf (mixKind P w) a vs:=zpq ok (.inl e)
theorem zl2 {ks:List Key}(ok:HOk P w H h)(e:H a=some (.tup (ks.map kV))):(tupleKind (mixKind P w)).is h ks a:=by
 obtain ⟨_,its,r,o,h1,h2,n,h3⟩:=(show ObjOk P w H h a (.tup (ks.map kV)) from ok a _ e)
 exact ⟨o,its.toArray,n,h1,h2,h3,by simpa using zry r⟩
theorem zr8 {kvs:List (List Key×V)}(ok:HOk P w H h)(e:Rd H a (.dT kvs)):kvs.length≤sizeLine∧(a==sysModules)=false∧
  ∃ xs,KT H kvs xs∧h.DictOfH (tupleKind (mixKind P w)) a xs:=by
 obtain ⟨z,y,xs,r,o,es,ep,h1,h2,h3,h4,h5⟩:=(show ObjOk P w H h a (.dT kvs) from rd_of ok e)
 refine ⟨z,y,xs,r,o,es,ep,h1,h2,h3,h4,fun x hx=>?_,h5⟩;have all:∀ {l:List (List Key×V)} {m:List (List Key×Addr×Value)},KT H l m→∀ x∈m,(tupleKind (mixKind P w)).is h x.1 x.2.1:=by
  intro l m q;induction q with
  | nil=>intro x hx;exact nomatch hx
  | @cons p q ps qs hq t ih=>
   intro x hx;rcases List.mem_cons.mp hx with e | hx
   ·subst e;exact zl2 ok (by rw [←hq.1];exact hq.2.1)
   ·exact ih x hx
 exact all r x hx
theorem dt_of {kvs:List (List Key×V)}(ok:HOk P w H h)(e:H a=some (.dT kvs)):kvs.length≤sizeLine∧(a==sysModules)=false∧
  ∃ xs,KT H kvs xs∧h.DictOfH (tupleKind (mixKind P w)) a xs:=zr8 ok (.inl e)
end
def DGet (H:Hp)(a:Addr)(y:V)(r:Option V):Prop:=
 (∃ kvs k,Rd H a (.dK kvs)∧y=kV k∧r=valV kvs k)∨∃ kvs k b,Rd H a (.dT kvs)∧y=.ref b∧H b=some (.tup (k.map kV))∧r=valV kvs k
def DPut (H:Hp)(a:Addr)(y v:V)(H':Hp):Prop:=
 (∃ kvs k,H a=some (.dK kvs)∧y=kV k∧kvs.length<sizeLine∧H'=upd H a (.dK (putK kvs k v))) ∨
 ∃ kvs k b,H a=some (.dT kvs)∧y=.ref b∧H b=some (.tup (k.map kV))∧kvs.length<sizeLine∧H'=upd H a (.dT (putK kvs k v))
theorem DGet.k {H:Hp}{a:Addr}{kvs:List (Key×V)}{k:Key}(e:H a=some (.dK kvs)):DGet H a (kV k) (valV kvs k):=.inl ⟨kvs,k,.inl e,rfl,rfl⟩
theorem DGet.t {H:Hp}{a b:Addr}{kvs:List (List Key×V)}{k:List Key}(e:H a=some (.dT kvs))(eb:H b=some (.tup (k.map kV))):DGet H a (.ref b) (valV kvs k):=.inr ⟨kvs,k,b,.inl e,rfl,eb,rfl⟩
theorem DPut.k {H:Hp}{a:Addr}{kvs:List (Key×V)}{k:Key}{v:V}(e:H a=some (.dK kvs))(hl:kvs.length<sizeLine):DPut H a (kV k) v (upd H a (.dK (putK kvs k v))):=.inl ⟨kvs,k,e,rfl,hl,rfl⟩
theorem DPut.t {H:Hp}{a b:Addr}{kvs:List (List Key×V)}{k:List Key}{v:V}(e:H a=some (.dT kvs))(eb:H b=some (.tup (k.map kV)))(hl:kvs.length<sizeLine):
  DPut H a (.ref b) v (upd H a (.dT (putK kvs k v))):=.inr ⟨kvs,k,b,e,rfl,eb,hl,rfl⟩
section
variable {X:Cx}{pins:List (Addr×Obj)}{σ:St}{H:Hp}{s:Shared}{a:Addr}{y v:V}{u r:Value}{o:Option V}{A:Around}{E:Value→Shared→Prop}
theorem Inv.big (I:Inv X pins σ H s):sysModules<s.heap.objs.size:=by
 have h:mainGlobals<s.heap.objs.size:=(I.mod.glob.keeps I.bk).lt;exact Nat.lt_trans (by decide) h
theorem d_getItem {Q:Value→Shared→Prop}(hu:A.units+1<cLine)(I:Inv X pins σ H s)(g:DGet H a y (some v))(ry:RelV y u)(h:∀ w' s',Inv X pins σ H s'→RelV v w'→Q w' s'):
  wpAny (model X.prog X.w) A (getItem (.ref a) u) Q E s:=by
 rcases g with ⟨kvs,k,e,ey,l⟩ | ⟨kvs,k,b,e,ey,eb,l⟩
 ·subst ey;obtain ⟨z,hd,vs,rel,dd⟩:=zpq I.hok e;obtain ⟨w',hw,rw'⟩:=RelO.zje (v:=v) (o:=valueAt vs k) (by rw [l];exact rel.val k)
  exact wpAny_getItem_of (zpj ry) dd.mapOf hw (h w' _ (I.tok _) rw')
 ·subst ey;cases (show u=Value.ref b from ry)
  obtain ⟨z,hd,xs,rel,dd⟩:=zr8 I.hok e;obtain ⟨w',hw,rw'⟩:=RelO.zje (v:=v) (o:=(atKey xs k).map (·.2)) (by rw [l];exact rel.val k)
  obtain ⟨p,hp,hp2⟩:=Option.map_eq_some_iff.mp hw;refine wpAny_getItem_heap (tupleKind_room_in1 hu) (zl2 I.hok eb) dd hp ?_;rw [hp2];exact h w' _ (I.tok _) rw'
theorem d_in {Q:Value→Shared→Prop}(hu:A.units+1<cLine)(I:Inv X pins σ H s)(g:DGet H a y o)(ry:RelV y u)(h:∀ s',Inv X pins σ H s'→Q (.bool o.isSome) s'):
  wpAny (model X.prog X.w) A (compareOp .In u (.ref a)) Q E s:=by
 rcases g with ⟨kvs,k,e,ey,l⟩ | ⟨kvs,k,b,e,ey,eb,l⟩
 ·subst ey;obtain ⟨z,hd,vs,rel,dd⟩:=zpq I.hok e;refine wpAny_in_of (zpj ry) hd dd.mapOf ?_;rw [←(rel.val k).zha,←l];exact h _ (I.tok _)
 ·subst ey;cases (show u=Value.ref b from ry)
  obtain ⟨z,hd,xs,rel,dd⟩:=zr8 I.hok e;refine wpAny_in_heap (tupleKind_room_in1 hu) (zl2 I.hok eb) hd dd ?_;have q:=(rel.val k).zha;rw [Option.isSome_map] at q;rw [←q,←l];exact h _ (I.tok _)
theorem d_notIn {Q:Value→Shared→Prop}(hu:A.units+1<cLine)(I:Inv X pins σ H s)(g:DGet H a y o)(ry:RelV y u)(h:∀ s',Inv X pins σ H s'→Q (.bool (!o.isSome)) s'):
  wpAny (model X.prog X.w) A (compareOp .NotIn u (.ref a)) Q E s:=by
 rcases g with ⟨kvs,k,e,ey,l⟩ | ⟨kvs,k,b,e,ey,eb,l⟩
 ·subst ey;obtain ⟨z,hd,vs,rel,dd⟩:=zpq I.hok e;refine wpAny_notIn_of (zpj ry) hd dd.mapOf ?_;rw [←(rel.val k).zha,←l];exact h _ (I.tok _)
 ·subst ey;cases (show u=Value.ref b from ry)
  obtain ⟨z,hd,xs,rel,dd⟩:=zr8 I.hok e;refine wpAny_notIn_heap (tupleKind_room_in1 hu) (zl2 I.hok eb) hd dd ?_;have q:=(rel.val k).zha;rw [Option.isSome_map] at q;rw [←q,←l];exact h _ (I.tok _)
theorem zuc {h':Heap}{t':Nat}{ob:HO}(I:Inv X pins σ H s)(mu:Mut (H a))(hs:Heap.SameBut a s.heap h')(he:∃ q,h'.get? a=some q)(new:ObjOk X.prog X.w (upd H a ob) h' a ob):
  Inv X pins σ (upd H a ob) {s with heap:=h',toks:=t'}:=
 I.write (x:=a) (e:=a) mu (.inl rfl) (fun b q hb z=>(hs.2 b hb).trans z) he new
theorem dk_new {P:Program}{w:World}{H':Hp}{h':Heap}{kvs:List (Key×V)}{vs:List (Key×Value)}(z:kvs.length≤sizeLine)(hd:(a==sysModules)=false)(rel:KV kvs vs)(dd:h'.DictOf (mixKind P w) a vs):
  ObjOk P w H' h' a (.dK kvs):=⟨z,hd,vs,rel,dd⟩
theorem d_setItem {H':Hp}{Q:Unit→Shared→Prop}(hu:A.units+1<cLine)(I:Inv X pins σ H s)(g:DPut H a y v H')(ry:RelV y u)(rv:RelV v r)(h:∀ s',Inv X pins σ H' s'→Q () s'):
  wpAny (model X.prog X.w) A (setItem (.ref a) u r) Q E s:=by
 rcases g with ⟨kvs,k,e,ey,l,eH⟩ | ⟨kvs,k,b,e,ey,eb,l,eH⟩
 ·subst ey eH;obtain ⟨z,hd,vs,rel,dd⟩:=dk_of I.hok e;have hz:vs.length≤sizeLine:=by rw [←rel.length];exact z
  have hl:(putK kvs k v).length≤sizeLine:=by have:=zh8 kvs k v;omega
  refine wpAny_setItem_pairs (hsz:=hz) (zpj ry) dd fun h' dd' hs=>h _ ?_;have he:∃ q,h'.get? a=some q:=let ⟨q,_,_,hq,_⟩:=dd';⟨q,hq⟩
  exact zuc I (by rw [e];exact True.intro) hs he (dk_new hl hd (rel.put k rv) dd')
 ·subst ey eH;cases (show u=Value.ref b from ry)
  obtain ⟨z,hd,xs,rel,dd⟩:=dt_of I.hok e;have hz:xs.length≤sizeLine:=by rw [←Paired.length rel];exact z
  have hl:(putK kvs k v).length≤sizeLine:=by have:=zh8 kvs k v;omega
  refine wpAny_setItem_heap (hsz:=hz) (tupleKind_room_in1 hu) (zl2 I.hok eb) dd fun h' dd' hs=>h _ ?_;obtain ⟨q,es,ep,hq,h2,h3,h4,_,h5⟩:=dd';refine zuc I (by rw [e];exact True.intro) hs ⟨q,hq⟩ ⟨hl,hd,_,(rel.put k eb rv).keeps fun c ys ec=>?_,q,es,ep,hq,h2,h3,h4,h5⟩
  rw [zac (zdd ec e (fun z=>nomatch z))]
  exact ec
end
section
variable {X:Cx}{pins:List (Addr×Obj)}{σ:St}{H:Hp}{s:Shared}{a:Addr}{kvs:List (Key×V)}{k:Key}{u:Value}{A:Around}{E:Value→Shared→Prop}
theorem d_len {Q:Value→Shared→Prop}(I:Inv X pins σ H s)(e:Rd H a (.dK kvs))(h:∀ t s',Inv X pins σ H s'→Q (.int kvs.length t) s'):wpAny (model X.prog X.w) A (call (.builtin "len") [.ref a]) Q E s:=by
 obtain ⟨z,hd,vs,rel,dd⟩:=zpq I.hok e;refine call_len_dict hd dd (by rw [←rel.length];rw [sizeLine_eq] at z;omega) ?_
 rw [←rel.length];exact h _ _ (I.tok _)
end
def NoSl (i:Expr):Prop:=∀ ov iv,subscripted i false ov iv=operate [ov,iv] (getItem ov iv)
theorem subD_of {prog:Program}{w:World}{A:Around}{E:Value→Shared→Prop}{s:Shared}{env:Env}{value slice:Expr}{pos:Pos}{T id:String}{Q:Value→Shared→Prop}(hl:typeLookup (.type T) "__getitem__"=pure (some (.builtin id)))(hs:NoSl slice)(h:wpAny (model prog w) A (eval value env) (fun o s₁=>wpAny (model prog w) A (eval slice env) (fun i s₂=>s₂.TypeIs o T∧wpAny (model prog w) A (getItem o i) Q E s₂) E s₁) E s):
  wpAny (model prog w) A (eval (.Subscript value slice pos) env) Q E s:=by
 refine Subscript_ (wpAny_mono h (fun o s₁ h₁=>wpAny_mono h₁ (fun i s₂ h₂=>?_) fun _ _ x=>x) fun _ _ x=>x);obtain ⟨hT,h₂⟩:=h₂;unfold subscriptTail;refine wpAny_bind ?_;rw [getitemInPython_of_ne hT.not_modules];refine wpAny_bind (wpAny_specialOf hT hl ?_);have fin:wpAny (model prog w) A (subscripted slice false o i) (fun r s₃=>wpAny (model prog w) A (letTemporaryGo value o r >>= fun _=>pure r) Q E s₃) E s₂:=by
  rw [hs o i];exact wpAny_operating (wpAny_mono h₂ (fun r s₃ h₃=>wpAny_bind (wpAny_letTemporaryGo (wpAny_pure h₃))) fun _ _ x=>x)
 first
  | exact wpAny_pure (wpAny_bind fin)
  | exact wpAny_bind (wpAny_pure (wpAny_bind fin))
  | exact wpAny_bind fin
theorem zub {X:Cx}{pins:List (Addr×Obj)}{σ:St}{H:Hp}{s:Shared}{a:Addr}{y:V}{o:Option V}(I:Inv X pins σ H s)(g:DGet H a y o):s.TypeIs (.ref a) "dict":=by
 rcases g with ⟨kvs,k,e,_,_⟩ | ⟨kvs,k,b,e,_,_,_⟩
 ·obtain ⟨_,_,vs,_,dd⟩:=zpq I.hok e;exact dd.typeIs
 ·obtain ⟨_,_,xs,_,dd⟩:=zr8 I.hok e;exact dd.typeIs
def tDGet (td ty:TE):TE:=fun σ H Q=>td σ H fun x H1=>ty σ H1 fun y H2=>∃ a v,x=.ref a∧DGet H2 a y (some v)∧Q v H2
def tDIn (ty td:TE):TE:=fun σ H Q=>ty σ H fun y H1=>td σ H1 fun x H2=>∃ a o,x=.ref a∧DGet H2 a y o∧Q (.bl o.isSome) H2
def tDNotIn (ty td:TE):TE:=fun σ H Q=>ty σ H fun y H1=>td σ H1 fun x H2=>∃ a o,x=.ref a∧DGet H2 a y o∧Q (.bl (!o.isSome)) H2
def sDPut (td ty tv:TE):TS:=fun D σ H=>tv σ H fun v H1=>td σ H1 fun x H2=>ty σ H2 fun y H3=>∃ a H4,x=.ref a∧DPut H3 a y v H4∧D.nx σ H4
section
variable {X:Cx}{o i e value:Expr}{pos pos' tpos:Pos}{td ty tv:TE}
theorem zlq (hu:X.A.units+1<cLine)(ho:PE X o td)(hi:PE X i ty)(hs:NoSl i):PE X (.Subscript o i pos) (tDGet td ty):=by
 intro pins s σ H Q I h;refine subD_of PySem.F.slot_dict_getitem.lookup hs (thn (ho pins s σ H _ I h) fun u s1 ⟨x,H1,I1,rx,q1⟩=>thn (hi pins s1 σ H1 _ I1 q1) fun iv s2 ⟨y,H2,I2,ry,a,v,ex,g,q2⟩=>?_);subst ex;obtain rfl:u=Value.ref a:=rx;exact ⟨zub I2 g,d_getItem hu I2 g ry fun w' s3 I3 rw'=>⟨v,H2,I3,rw',q2⟩⟩
theorem pc_din (hu:X.A.units+1<cLine)(hi:PE X i ty)(ho:PE X o td):PC X .In i o (tDIn ty td):=by
 intro pins s σ H Q I h;refine thn (hi pins s σ H _ I h) fun iv s1 ⟨y,H1,I1,ry,q1⟩=>thn (ho pins s1 σ H1 _ I1 q1) fun u s2 ⟨x,H2,I2,rx,a,ov,ex,g,q2⟩=>?_;subst ex;obtain rfl:u=Value.ref a:=rx;exact d_in hu I2 g ry fun s3 I3=>⟨.bl ov.isSome,H2,I3,rfl,q2⟩
theorem zir (hu:X.A.units+1<cLine)(hi:PE X i ty)(ho:PE X o td):PC X .NotIn i o (tDNotIn ty td):=by
 intro pins s σ H Q I h;refine thn (hi pins s σ H _ I h) fun iv s1 ⟨y,H1,I1,ry,q1⟩=>thn (ho pins s1 σ H1 _ I1 q1) fun u s2 ⟨x,H2,I2,rx,a,ov,ex,g,q2⟩=>?_;subst ex;obtain rfl:u=Value.ref a:=rx;exact d_notIn hu I2 g ry fun s3 I3=>⟨.bl (!ov.isSome),H2,I3,rfl,q2⟩
theorem zlo (hu:X.A.units+1<cLine)(ho:PE X o td)(hi:PE X i ty)(hv:PE X value tv)(hs:swapsWith value (some (.Subscript o i pos')) pos.line X.env=pure false):
  PS X (.Assign [.Subscript o i pos'] value pos) (sDPut td ty tv):=by
 intro pins s σ H D I h;refine wpAny_Assign_Subscript (thn (hv pins s σ H _ I h) fun r s1 ⟨v,H1,I1,rv,q1⟩=>thn (ho pins s1 σ H1 _ I1 q1) fun u s2 ⟨x,H2,I2,rx,q2⟩=>thn (hi pins s2 σ H2 _ I2 q2) fun iv s3 ⟨y,H3,I3,ry,a,H4,ex,g,q3⟩=>?_) hs;subst ex;obtain rfl:u=Value.ref a:=rx;exact d_setItem hu I3 g ry rv fun s4 I4=>⟨σ,H4,I4,q3⟩
end
theorem dk_empty {P:Program}{w:World}{H:Hp}(h:Heap)(hb:sysModules<h.objs.size):ObjOk P w H (h.push {cls:=.type "dict",data:=.dict #[]}) h.objs.size (.dK []):=
 ⟨Nat.zero_le _,beq_eq_false_iff_ne.mpr (Ne.symm (Nat.ne_of_lt hb)),[],.nil,Heap.DictOf.new h⟩
def tDNewK:TE:=fun _ H Q=>∀ p,H p=none→Q (.ref p) (upd H p (.dK []))
section
variable {X:Cx}{pos:Pos}
theorem zf3:PE X (.Dict [] [] pos) tDNewK:=fun pins s σ H Q I h=>
 wpAny_Dict_empty ⟨.ref s.heap.objs.size,_,I.laid (a:=s.heap.objs.size) (o:=.dK []) (t':=s.toks) (fun _ _ q=>Heap.get?_push_of_some _ q) (Nat.le_refl _) (dk_empty s.heap I.big),rfl,h _ (I.hok.fresh (Nat.le_refl _))⟩
end
structure M1 (X:Cx)(o:Expr)(m:Str)(apos:Pos)(e:Expr)(cpos:Pos):Prop where
 base:attributeBase o m X.env (eval o X.env)=eval o X.env
 few:((backTo cpos (starEach [e] X.env)).all (fun x=>!x.1)&&(backToKw cpos (keywordEach [] X.env)).all (fun x=>x.1.isSome)
  && decide (([e]:List Expr).length+([]:List Keyword).length+(if ([]:List Keyword).isEmpty then 0 else 1)<30))=true
 line:(apos.endLine==cpos.line)=true
 trees:backTo cpos (starEach [e] X.env)=[(false,eval e X.env)]
structure M2 (X:Cx)(o:Expr)(m:Str)(apos:Pos)(e f:Expr)(cpos:Pos):Prop where
 base:attributeBase o m X.env (eval o X.env)=eval o X.env
 few:((backTo cpos (starEach [e,f] X.env)).all (fun x=>!x.1)&&(backToKw cpos (keywordEach [] X.env)).all (fun x=>x.1.isSome)
  && decide (([e,f]:List Expr).length+([]:List Keyword).length+(if ([]:List Keyword).isEmpty then 0 else 1)<30))=true
 line:(apos.endLine==cpos.line)=true
 trees:backTo cpos (starEach [e,f] X.env)=[(false,eval e X.env),(false,eval f X.env)]
def IsD (H:Hp)(a:Addr):Prop:=(∃ kvs,Rd H a (.dK kvs))∨∃ kvs,Rd H a (.dT kvs)
theorem isD_at {X:Cx}{pins:List (Addr×Obj)}{σ:St}{H:Hp}{s:Shared}{a:Addr}(I:Inv X pins σ H s)(d:IsD H a):
  s.TypeIs (.ref a) "dict"∧(∀ b,Value.ref a=.ref b→∃ ob,s.heap.get? b=some ob∧ob.dict=none)∧(a==sysModules)=false:=by
 rcases d with ⟨kvs,e⟩ | ⟨kvs,e⟩
 ·obtain ⟨_,hd,vs,_,dd⟩:=zpq I.hok e;refine ⟨dd.typeIs,fun b q=>?_,hd⟩;cases q;obtain ⟨ob,_,_,h1,h2,_⟩:=dd;exact ⟨ob,h1,h2.2.1⟩
 ·obtain ⟨_,hd,xs,_,dd⟩:=zr8 I.hok e;refine ⟨dd.typeIs,fun b q=>?_,hd⟩;cases q;obtain ⟨ob,_,_,h1,h2,_⟩:=dd;exact ⟨ob,h1,h2.2.1⟩
section
variable {X:Cx}{pins:List (Addr×Obj)}{σ:St}{H:Hp}{s:Shared}{a:Addr}{y d:V}{u r:Value}{o:Option V}{A:Around}{E:Value→Shared→Prop}
theorem d_get1 {Q:Value→Shared→Prop}(hu:A.units+1<cLine)(I:Inv X pins σ H s)(g:DGet H a y o)(ry:RelV y u)(h:∀ w' s',Inv X pins σ H s'→RelV (o.getD .non) w'→Q w' s'):
  wpAny (model X.prog X.w) A (call (.builtin "dict.get") [.ref a,u]) Q E s:=by
 rcases g with ⟨kvs,k,e,ey,l⟩ | ⟨kvs,k,b,e,ey,eb,l⟩
 ·subst ey;obtain ⟨z,hd,vs,rel,dd⟩:=zpq I.hok e;refine call_meetsIn PySem.F.slot_dict_get dd.typeIs PySem.F.entry_dict_get (PySem.F.args_dict_get_2 _ _) (meets_dict_get (mixKind X.prog X.w) a (zpj ry) hd) ⟨_,dd.mapOf,h _ _ (I.tok _) ?_⟩;rw [l];exact (rel.val k).getD rfl
 ·subst ey;cases (show u=Value.ref b from ry)
  obtain ⟨z,hd,xs,rel,dd⟩:=zr8 I.hok e;refine call_meetsIn PySem.F.slot_dict_get dd.typeIs PySem.F.entry_dict_get (PySem.F.args_dict_get_2 _ _) (meetsH_dict_get (tupleKind (mixKind X.prog X.w)) a b hd) ⟨tupleKind_room_in1 hu,k,xs,zl2 I.hok eb,dd,h _ _ (I.tok _) ?_⟩;rw [l];exact (rel.val k).getD rfl
theorem d_get2 {Q:Value→Shared→Prop}(hu:A.units+1<cLine)(I:Inv X pins σ H s)(g:DGet H a y o)(ry:RelV y u)(rd:RelV d r)(h:∀ w' s',Inv X pins σ H s'→RelV (o.getD d) w'→Q w' s'):
  wpAny (model X.prog X.w) A (call (.builtin "dict.get") [.ref a,u,r]) Q E s:=by
 rcases g with ⟨kvs,k,e,ey,l⟩ | ⟨kvs,k,b,e,ey,eb,l⟩
 ·subst ey;obtain ⟨z,hd,vs,rel,dd⟩:=zpq I.hok e;refine call_meetsIn PySem.F.slot_dict_get dd.typeIs PySem.F.entry_dict_get (PySem.F.args_dict_get_3 _ _ _) (meets_dict_get_default (mixKind X.prog X.w) a (zpj ry) hd r) ⟨_,dd.mapOf,h _ _ (I.tok _) ?_⟩;rw [l];exact (rel.val k).getD rd
 ·subst ey;cases (show u=Value.ref b from ry)
  obtain ⟨z,hd,xs,rel,dd⟩:=zr8 I.hok e;refine call_meetsIn PySem.F.slot_dict_get dd.typeIs PySem.F.entry_dict_get (PySem.F.args_dict_get_3 _ _ _) (meetsH_dict_get_default (tupleKind (mixKind X.prog X.w)) a b hd r) ⟨tupleKind_room_in1 hu,k,xs,zl2 I.hok eb,dd,h _ _ (I.tok _) ?_⟩;rw [l];exact (rel.val k).getD rd
end
def tDGet1 (td ty:TE):TE:=fun σ H Q=>td σ H fun x H1=>∃ a,x=.ref a∧IsD H1 a∧ty σ H1 fun y H2=>∃ o,DGet H2 a y o∧Q (o.getD .non) H2
def tDGet2 (td ty tx:TE):TE:=fun σ H Q=>td σ H fun x H1=>∃ a,x=.ref a∧IsD H1 a∧ty σ H1 fun y H2=>tx σ H2 fun z H3=>∃ o,DGet H3 a y o∧Q (o.getD z) H3
section
variable {X:Cx}{o e f:Expr}{apos cpos:Pos}{td ty tx:TE}
theorem pe_dget1 (hu:X.A.units+1<cLine)(ho:PE X o td)(he:PE X e ty)(m:M1 X o "get" apos e cpos):PE X (.Call (.Attribute o "get" apos) [e] [] cpos) (tDGet1 td ty):=by
 intro pins s σ H Q I h;refine wpAny_Call_method m.base m.few m.line PySem.F.plainAttrs_dict PySem.F.slot_dict_get PySem.F.type_dict_get (thn (ho pins s σ H _ I h) fun u s1 ⟨x,H1,I1,rx,a,ex,d,q1⟩=>?_);subst ex;obtain rfl:u=Value.ref a:=rx;obtain ⟨t1,t2,_⟩:=isD_at I1 d;refine ⟨t1,t2,?_⟩;rw [m.trees];refine Calls.callWith_builtin rfl (Calls.evalArgs_plain (Calls.spliced_cons (thn (he pins s1 σ H1 _ I1 q1) fun iv s2 ⟨y,H2,I2,ry,ov,g,q2⟩=>Calls.spliced_nil ?_)));exact d_get1 hu I2 g ry fun w' s3 I3 rw'=>⟨_,H2,I3,rw',q2⟩
theorem zow (hu:X.A.units+1<cLine)(ho:PE X o td)(he:PE X e ty)(hf:PE X f tx)(m:M2 X o "get" apos e f cpos):PE X (.Call (.Attribute o "get" apos) [e,f] [] cpos) (tDGet2 td ty tx):=by
 intro pins s σ H Q I h;refine wpAny_Call_method m.base m.few m.line PySem.F.plainAttrs_dict PySem.F.slot_dict_get PySem.F.type_dict_get (thn (ho pins s σ H _ I h) fun u s1 ⟨x,H1,I1,rx,a,ex,d,q1⟩=>?_);subst ex;obtain rfl:u=Value.ref a:=rx;obtain ⟨t1,t2,_⟩:=isD_at I1 d;refine ⟨t1,t2,?_⟩;rw [m.trees];refine Calls.callWith_builtin rfl (Calls.evalArgs_plain (Calls.spliced_cons (thn (he pins s1 σ H1 _ I1 q1) fun iv s2 ⟨y,H2,I2,ry,q2⟩=>
  Calls.spliced_cons (thn (hf pins s2 σ H2 _ I2 q2) fun fv s3 ⟨z,H3,I3,rz,ov,g,q3⟩=>Calls.spliced_nil ?_))))
 exact d_get2 hu I3 g ry rz fun w' s4 I4 rw'=>⟨_,H3,I4,rw',q3⟩
end
section
variable {X:Cx}{pins:List (Addr×Obj)}{σ:St}{H:Hp}{s:Shared}{a:Addr}{kvs:List (Key×V)}{A:Around}{E:Value→Shared→Prop}
end
section
variable {X:Cx}{pins:List (Addr×Obj)}{σ:St}{H:Hp}{s:Shared}{a:Addr}{y:V}{u:Value}{A:Around}{E:Value→Shared→Prop}
end
end L2
namespace L2
open PySem PySem.Spec PyProof.Rows
section
variable {prog:Program}{w:World}{A:Around}{E:Value→Shared→Prop}
end
section
variable {X:Cx}
end
end L2
namespace L2
open PySem PySem.Spec PyProof.Rows
section
variable {X:Cx}{pins:List (Addr×Obj)}{σ:St}{H:Hp}{s:Shared}{h':Heap}
theorem Inv.turnedNew {t':Nat}{ch:List Addr}{T:Addr}{ob:HO}(I:Inv X pins σ H s)(k:∀ b o,b∉ch→s.heap.get? b=some o→h'.get? b=some o)(hf:∀ b∈ch,FpOk X pins H b)(hT:s.heap.objs.size≤T)(new:ObjOk X.prog X.w (upd H T ob) h' T ob):Inv X pins σ (upd H T ob) {s with heap:=h',toks:=t'}:=by
 have hn:H T=none:=I.hok.fresh hT;have nit:∀ b u,H b=some u→b∉ch:=fun b u e z=>by
  have q:=(hf b z).1;rw [q] at e;cases e
 refine I.step (g':=s.gens) (d':=s.drawn) (ch:=ch) (fun b hb=>⟨(hf b hb).2.2.2.1,(hf b hb).2.1,(hf b hb).2.2.2.2.1,(hf b hb).2.2.2.2.2⟩) (fun b o _ _ hc e _=>k b o hc e) (fun b o _ _ hc e _=>⟨o.slots,k b o hc e⟩)
  (fun b o _ e n=>?_) (fun b o hc e=>⟨o,k b o hc e⟩) (fun b xs e=>?_) (fun b o u e=>?_) (fun b ps e=>⟨#[],?_⟩) (fun m hm=>?_) (fun b u e=>?_) I.bare
 ·rw [zac (Nat.ne_of_lt (Nat.lt_of_lt_of_le (Heap.lt_size e) hT))];exact n
 ·rw [zac (zag e hn)];exact e
 ·rw [zac (zag e hn)];exact e
 ·rw [zac (zag e hn),e];simp
 ·obtain ⟨o,es,ep,ho,r⟩:=hm;exact ⟨o,es,ep,k _ o (fun z=>(hf _ z).2.1 rfl) ho,r⟩
 ·by_cases hb:b=T
  ·subst hb;rw [zaa] at e;cases e;exact new
  ·rw [zac hb] at e;refine (I.hok b u e).stay (fun c v hc q=>k c v ?_ q) (fun c q=>by rw [zac (zag q hn)];exact q) fun c xs q=>by rw [zac (zag q hn)];exact q
   rcases hc with z | z
   ·rw [z];exact nit b u e
   ·exact nit c _ z
theorem Inv.lock {d:Addr}{u:HO}(I:Inv X pins σ H s)(h:H d=some u)(mu:Mut (some u)):∃ od,Inv X pins σ (upd H d (.frz od u)) s:=by
 have x:=I.hok d u h;have ex:∃ od,s.heap.get? d=some od:=by
  cases u with
  | lst xs=>obtain ⟨_,_,_,_,e⟩:=x;exact ⟨_,e⟩
  | dK kvs=>obtain ⟨_,_,_,_,o,_,_,e,_⟩:=x;exact ⟨o,e⟩
  | dT kvs=>obtain ⟨_,_,_,_,o,_,_,e,_⟩:=x;exact ⟨o,e⟩
  | set S n=>obtain ⟨o,_,_,_,e,_⟩:=x;exact ⟨o,e⟩
  | ins C dx fs=>obtain ⟨_,_,_,e,_⟩:=x;exact ⟨_,e⟩
  | ext φ=>obtain ⟨_,⟨_,e⟩,_⟩:=x;exact ⟨_,e⟩
  | _=>exact False.elim mu
 obtain ⟨od,e⟩:=ex;have new:ObjOk X.prog X.w (upd H d (.frz od u)) s.heap d (.frz od u):=by
  refine ⟨e,x.stay (fun b v _ q=>q) (fun b q=>?_) fun b xs q=>?_⟩
  ·rw [zac (fun z=>by rw [z,h] at q;cases q;exact mu)];exact q
  ·rw [zac (fun z=>by rw [z,h] at q;cases q;exact mu)];exact q
 exact ⟨od,I.write (x:=d) (e:=d) (t':=s.toks) (h':=s.heap) (by rw [h];exact mu) (.inl rfl) (fun b v _ q=>q) ⟨od,e⟩ new⟩
theorem Inv.nofrz {d:Addr}{u:HO}(I:Inv X pins σ H s)(h:H d=some u)(mu:Mut (some u)):∀ o' u',X.H_0 d≠some (.frz o' u'):=fun o' u' e=>by
 have q:=I.base.frzs d o' u' e;rw [h] at q;cases q;exact mu
theorem Inv.unlock {d:Addr}{od:Obj}{u:HO}(I:Inv X pins σ H s)(h:H d=some (.frz od u))(hn:∀ o' u',X.H_0 d≠some (.frz o' u')):Inv X pins σ (upd H d u) s:=by
 have neH:∀ b o,H b=some o→(∀ o' u',o≠.frz o' u')→b≠d:=fun b o e hne z=>by
  rw [z,h] at e;cases e;exact hne _ _ rfl
 have neN:∀ b,H b=none→b≠d:=fun b e z=>by rw [z,h] at e;cases e
 refine ⟨I.ok,I.os,I.bare,⟨I.base.keep,I.base.slot,fun b o e n hx=>?_,I.base.there,fun b xs e=>?_,fun b o x e=>?_,fun b ps e=>?_⟩,I.loc,I.cell,?_,fun x c e=>?_,fun p hp=>?_,fun b o e=>?_,I.len⟩
 ·rw [zac (neN b (I.base.free b o e n hx))];exact I.base.free b o e n hx
 ·have q:=I.base.tups b xs e;rw [zac (neH b _ q (fun _ _ z=>nomatch z))];exact q
 ·have q:=I.base.frzs b o x e;rw [zac (fun z=>by rw [z] at e;exact hn _ _ e)];exact q
 ·obtain ⟨m,q⟩:=I.base.tbls b ps e;exact ⟨m,by rw [zac (neH b _ q (fun _ _ z=>nomatch z))];exact q⟩
 ·rw [zac (neN _ I.free)];exact I.free
 ·rw [zac (neN c (I.freeC x c e))];exact I.freeC x c e
 ·obtain ⟨e,n,r⟩:=I.pin p hp;exact ⟨e,by rw [zac (neN _ n)];exact n,r⟩
 ·by_cases hb:b=d
  ·rw [hb,zaa] at e;cases e;rw [hb];obtain ⟨_,x⟩:=I.hok d _ h;exact x.stay (fun c v _ q=>q) (fun c q=>by rw [zac (neH c _ q (fun _ _ z=>nomatch z))];exact q) fun c xs q=>by rw [zac (neH c _ q (fun _ _ z=>nomatch z))];exact q
  ·rw [zac hb] at e;exact (I.hok b o e).stay (fun c v _ q=>q) (fun c q=>by rw [zac (neH c _ q (fun _ _ z=>nomatch z))];exact q) fun c xs q=>by rw [zac (neH c _ q (fun _ _ z=>nomatch z))];exact q
end
def tLock (t:TS):TS:=fun D σ H=>∃ d u,H d=some u∧Mut (some u)∧∀ od,t ⟨fun σ' H'=>H' d=some (.frz od u)∧D.nx σ' (upd H' d u),fun v H'=>H' d=some (.frz od u)∧D.rt v (upd H' d u),fun σ' H'=>H' d=some (.frz od u)∧D.bk σ' (upd H' d u),fun σ' H'=>H' d=some (.frz od u)∧D.ct σ' (upd H' d u)⟩ σ (upd H d (.frz od u))
section
variable {X:Cx}
theorem ps_lock {st:Stmt}{t:TS}(h:PS X st t):PS X st (tLock t):=by
 intro pins s σ H D I hw;obtain ⟨d,u,hd,mu,hw⟩:=hw;obtain ⟨od,I1⟩:=I.lock hd mu;refine thn (h pins s σ _ _ I1 (hw od)) fun f s1 q=>?_;cases f with
 | next=>obtain ⟨σ',H',I2,e,q⟩:=q;exact ⟨σ',_,I2.unlock e (I.nofrz hd mu),q⟩
 | brk=>obtain ⟨σ',H',I2,e,q⟩:=q;exact ⟨σ',_,I2.unlock e (I.nofrz hd mu),q⟩
 | cont=>obtain ⟨σ',H',I2,e,q⟩:=q;exact ⟨σ',_,I2.unlock e (I.nofrz hd mu),q⟩
 | ret v=>obtain ⟨x,σ',H',I2,r,e,q⟩:=q;exact ⟨x,σ',_,I2.unlock e (I.nofrz hd mu),r,q⟩
theorem pi_one {tg:Expr}{pins:List (Addr×Obj)}{σ:St}{H:Hp}{s:Shared}{R:It→Hp→Prop}{J:It}{tn:Nat→Heap→Prop}{tk:Nat}(I:Inv X pins σ H s)(o:Obj)(T:Turn X.prog X.w X.K tg J [s.heap.objs.size] s.heap.objs.size tn)(st:tn 0 (s.heap.push o))(q:R J H):PIE X pins σ tg R (.ref s.heap.objs.size) {s with heap:=s.heap.push o,toks:=tk}:=by
 refine ⟨s.heap.objs.size,[s.heap.objs.size],tn,J,H,rfl,I.kept fun b ob e=>Heap.get?_push_of_some _ e,T,st,fun b hb=>?_,q⟩;have e:b=s.heap.objs.size:=by simpa using hb
 subst e;exact I.fpOk (Nat.le_refl _) (I.hok.fresh (Nat.le_refl _))
end
def RgC (i j c:Int)(n:Nat):Prop:=c≠0∧c.natAbs<1073741824∧Builtin.Range.small i j c=true∧Builtin.Range.rangeSize i j c=n
theorem RgC.neg {i j:Int}(ha:-(2^62)≤i)(ha':i<2^62)(hb:-(2^62)≤j)(hb':j<2^62):RgC i j (-1) (i - j).toNat:=
 ⟨by decide,by decide,PySem.W.small_down ha ha' hb hb',PySem.W.rangeSize_downNat i j⟩
section
variable {X:Cx}{tg:Expr}
end
section
variable {X:Cx}{tg:Expr}
end
def Its (x:Str):It:=⟨fun i _=>i<x.cps.size,fun i H v H'=>H'=H∧∃ c,x.cps[i]? = some c∧v=.str ⟨#[c]⟩,fun i _=>x.cps.size≤i⟩
theorem zul {P:Program}{w:World}{K:PySem.W.Frag}{tg:Expr}(it:Addr)(x:Str)(t:Tok)(ty:String)(hty:ty="str_ascii_iterator"∨ty="str_iterator"):
  Turn P w K tg (Its x) [it] it (fun i h=>h.IsStrIter it ty x t i) where
 mem:=by simp
 obj:=fun i h st b hb=>by
  have e:b=it:=by simpa using hb
  subst e;obtain ⟨o,e,c,d⟩:=st;exact ⟨o,e,fun v z=>by rw [d] at z;cases z⟩
 keep:=fun i h h' st k=>let ⟨o,ho,r⟩:=st;⟨o,k it (by simp) o ho,r⟩
 item:=by
  intro X hP hw hK hc i pins s σ H E I hf st hg;subst hP hw hK;obtain ⟨f0,f1,f2,f3,f4,f5⟩:=hf it (by simp)
  have W:Walks X.prog X.w X.A it [it] [it] x.cps.size (SignAt x) (fun i h=>h.IsStrIter it ty x t i):=by
   rcases hty with e | e
   ·rw [e];exact Walks.strAscii (I.ok.hd hc) it x t
   ·rw [e];exact Walks.strWide (I.ok.hd hc) it x t
  have hno:["enumerate","zip","dict_itemiterator","dict_reverseitemiterator","odict_iterator","itertools.zip_longest","itertools.pairwise"].contains ty=false:=by
   rcases hty with e | e
   ·rw [e];decide
   ·rw [e];decide
  refine W.item i s _ _ hg st fun v h' tk hv st' kk=>?_;obtain ⟨c,u,hcx,rfl⟩:=hv;have I1:Inv X pins σ H {s with heap:=h',toks:=tk}:=I.turned (fun b o hb e=>kk b o (by simpa using hb) e) f0 f1 f3 f4 f5
  obtain ⟨oi,e,cc,dd⟩:=id st';exact ⟨_,rfl,go_of (s:={s with heap:=h',toks:=tk}) e cc dd hno ⟨.str ⟨#[c]⟩,H,I1,⟨u,rfl⟩,⟨rfl,c,hcx,rfl⟩,st',fun b hb=>(hf b hb).1⟩⟩
 done:=by
  intro X hP hw hK hc i pins s σ H E I hf st hg;subst hP hw hK;obtain ⟨f0,f1,f2,f3,f4,f5⟩:=hf it (by simp)
  have hx:x.cps[i]? = none:=Array.getElem?_eq_none hg;rcases hty with e | e
  ·rw [e] at st;exact wpAny_pyNext_ascii_end (I.ok.hd hc) st hx fun h' eb=>⟨rfl,I.turned (t':=s.toks) (fun b o hb e=>eb b o hb e) f0 f1 f3 f4 f5⟩
  ·rw [e] at st;exact wpAny_pyNext_wide_end (I.ok.hd hc) st hx fun h' eb=>⟨rfl,I.turned (t':=s.toks) (fun b o hb e=>eb b o hb e) f0 f1 f3 f4 f5⟩
 self:=fun A i s Q E st h=>by
  rcases hty with e | e
  ·rw [e] at st;exact wpAny_pyIter_striter_ascii st h
  ·rw [e] at st;exact wpAny_pyIter_striter_wide st h
def iStr (te:TE):TI:=fun σ H R=>te σ H fun v H1=>∃ x,v=.str x∧R (Its x) H1
theorem pi_str {X:Cx}{tg e:Expr}{te:TE}(he:PE X e te):PI X tg e (iStr te):=by
 intro pins s σ H R I h;refine thn (he pins s σ H _ I h) fun v s1 ⟨y,H1,I1,r1,x,ex,q⟩=>?_;subst ex;obtain ⟨t,rfl⟩:=r1;cases ha:x.cps.all (·<128)
 ·exact wpAny_pyIter_wide ha (pi_one (tk:=s1.toks) I1 _ (zul _ x t "str_iterator" (.inr rfl)) ⟨_,Heap.get?_push_size _ rfl,rfl,rfl⟩ q)
 ·exact wpAny_pyIter_ascii ha (pi_one (tk:=s1.toks) I1 _ (zul _ x t "str_ascii_iterator" (.inl rfl)) ⟨_,Heap.get?_push_size _ rfl,rfl,rfl⟩ q)
section
variable {prog:Program}{w:World}{A:Around}{E:Value→Shared→Prop}{s:Shared}
end
theorem kv_get {κ:Type}{kvs:List (κ×V)}{vs:List (κ×Value)}(h:KV kvs vs):∀ {i:Nat} {k:κ} {v:V},kvs[i]? = some (k,v)→∃ u,vs[i]? = some (k,u)∧RelV v u:=by
 unfold KV at h;induction h with
 | nil=>intro i k v e;simp at e
 | @cons a b l₁ l₂ r t ih=>
  intro i k v e;cases i with
  | zero=>
   simp only [List.getElem?_cons_zero,Option.some.injEq] at e;subst e;refine ⟨b.2,?_,r.2⟩;simp only [List.getElem?_cons_zero];exact congrArg some (Prod.ext r.1.symm rfl)
  | succ j=>
   simp only [List.getElem?_cons_succ] at e ⊢;exact ih e
theorem zcu {α β:Type}{G:α→β→Prop}{l₁:List α}{l₂:List β}(h:Paired G l₁ l₂):∀ {i:Nat} {a:α},l₁[i]? = some a→∃ b,l₂[i]? = some b∧G a b:=by
 induction h with
 | nil=>intro i a e;simp at e
 | @cons a b l₁ l₂ r t ih=>
  intro i a' e;cases i with
  | zero=>
   simp only [List.getElem?_cons_zero,Option.some.injEq] at e;subst e;exact ⟨b,rfl,r⟩
  | succ j=>
   simp only [List.getElem?_cons_succ] at e ⊢;exact ih e
theorem relV_key {k:Key}{u:Value}(h:keyIs k u=true):RelV (kV k) u:=by
 rcases zbh h with ⟨i,t,rfl,rfl⟩ | ⟨x,t,rfl,rfl⟩
 ·exact ⟨t,rfl⟩
 ·exact ⟨t,rfl⟩
section
variable {X:Cx}{pins:List (Addr×Obj)}{σ:St}{H:Hp}{s:Shared}{d:Addr}{o:Obj}
theorem Inv.frzK {kvs:List (Key×V)}(I:Inv X pins σ H s)(h:H d=some (.frz o (.dK kvs))):
  (d==sysModules)=false∧s.heap.get? d=some o∧o.ExactDict∧∃ (es:Array DictEntry) (ep:Nat) (vs:List (Key×Value)),o.data=.dict es ep∧es.size=kvs.length∧KV kvs vs∧s.heap.DictAt (mixKind X.prog X.w) d vs ep:=by
 obtain ⟨hd,z,hs,vs,kv,o',es,ep,ho,hx,hdt,r⟩:=I.hok d _ h;rw [hd] at ho;cases ho;refine ⟨hs,hd,hx,es,ep,vs,hdt,?_,kv,o,es,hd,hx,hdt,r⟩;have l1:=r.2.1.length;have l2:kvs.length=vs.length:=Paired.length kv;rw [Array.length_toList] at l1;omega
end
def Itd (d:Addr)(o:Obj)(kvs:List (Key×V)):It:=
 ⟨fun i H=>H d=some (.frz o (.dK kvs))∧i<kvs.length,fun i H x H'=>H'=H∧∃ k,kvs[i]? = some (k,x),fun i H=>H d=some (.frz o (.dK kvs))∧kvs.length≤i⟩
def Iti (d:Addr)(o:Obj)(kvs:List (Key×V)):It:=
 ⟨fun i H=>H d=some (.frz o (.dK kvs))∧i<kvs.length,fun i H x H'=>∃ T k v,kvs[i]? = some (k,v)∧x=.ref T∧H T=none∧H'=upd H T (.tup [kV k,v]),fun i H=>H d=some (.frz o (.dK kvs))∧kvs.length≤i⟩
theorem zpr {o:Obj}{es es':Array DictEntry}{ep ep':Nat}(h:o.data=.dict es ep)(h':o.data=.dict es' ep'):es'=es∧ep'=ep:=by
 rw [h] at h';cases h';exact ⟨rfl,rfl⟩
section
variable {P:Program}{w:World}{K:PySem.W.Frag}{tg:Expr}{d:Addr}{o:Obj}{es:Array DictEntry}{ep:Nat}
theorem turn_vals {kvs:List (Key×V)}(it:Addr)(hod:o.data=.dict es ep):Turn P w K tg (Itd d o kvs) [it] it (fun i h=>h.IsValIter it d i kvs.length ep) where
 mem:=by simp
 obj:=fun i h st b hb=>by
  have e:b=it:=by simpa using hb
  subst e;obtain ⟨oi,e,c,dd⟩:=st;exact ⟨oi,e,fun v z=>by rw [dd] at z;cases z⟩
 keep:=fun i h h' st k=>st.at fun oi e=>k it (by simp) oi e
 item:=by
  intro X hP hw hK hc i pins s σ H E I hf st hg;subst hP hw hK;obtain ⟨hd,hi⟩:=hg;obtain ⟨f0,f1,f2,f3,f4,f5⟩:=hf it (by simp)
  obtain ⟨hs,hgd,hx,es',ep',vs,hdt,hsz,kv,hm⟩:=I.frzK hd;obtain ⟨rfl,rfl⟩:=zpr hod hdt;obtain ⟨⟨k,v⟩,hkv⟩:∃ p,kvs[i]? = some p:=⟨kvs[i],List.getElem?_eq_getElem hi⟩;obtain ⟨u,hu,ru⟩:=kv_get kv hkv;have hl:kvs.length=vs.length:=Paired.length kv;rw [hl] at st;refine wpAny_pyNext_values_item st hm hu fun h' st' sb=>?_;have I1:Inv X pins σ H {s with heap:=h'}:=I.turned (t':=s.toks) (fun b ob hb e=>(sb.2 b hb).trans e) f0 f1 f3 f4 f5;obtain ⟨oi,e,c,dd⟩:=id st';refine ⟨u,rfl,go_of (s:={s with heap:=h'}) e c dd (by decide) ⟨v,H,I1,ru,⟨rfl,k,hkv⟩,?_,fun b hb=>(hf b hb).1⟩⟩
  show h'.IsValIter it d (i+1) kvs.length _;rw [hl];exact st'
 done:=by
  intro X hP hw hK hc i pins s σ H E I hf st hg;subst hP hw hK;obtain ⟨hd,hi⟩:=hg;obtain ⟨f0,f1,f2,f3,f4,f5⟩:=hf it (by simp)
  obtain ⟨hs,hgd,hx,es',ep',vs,hdt,hsz,kv,hm⟩:=I.frzK hd;obtain ⟨rfl,rfl⟩:=zpr hod hdt;have hl:kvs.length=vs.length:=Paired.length kv;rw [hl] at st;exact wpAny_pyNext_values_end (I.ok.hd hc) st hm (List.getElem?_eq_none (by omega)) fun h' eb=>⟨rfl,I.turned (t':=s.toks) (fun b ob hb e=>eb b ob hb e) f0 f1 f3 f4 f5⟩
 self:=fun A i s Q E st h=>wpAny_pyIter_valiter st h
theorem zvs {kvs:List (Key×V)}{elts:List Expr}{kk:Nat}{tpos:Pos}(it:Addr)(hod:o.data=.dict es ep):
  Turn P w K (.Tuple elts kk tpos) (Iti d o kvs) [it] it (fun i h=>∃ ok ov,IsItemIter h it d i kvs.length ep ok ov) where
 mem:=by simp
 obj:=fun i h st b hb=>by
  have e:b=it:=by simpa using hb
  subst e;obtain ⟨ok,ov,e⟩:=st;exact ⟨_,e,fun v z=>nomatch z⟩
 keep:=fun i h h' st k=>let ⟨ok,ov,e⟩:=st;⟨ok,ov,k it (by simp) _ e⟩
 item:=by
  intro X hP hw hK hc i pins s σ H E I hf st hg;subst hP hw hK;obtain ⟨hd,hi⟩:=hg;obtain ⟨hs,hgd,hx,es',ep',vs,hdt,hsz,kv,hm⟩:=I.frzK hd;obtain ⟨rfl,rfl⟩:=zpr hod hdt;obtain ⟨⟨k,v⟩,hkv⟩:∃ p,kvs[i]? = some p:=⟨kvs[i],List.getElem?_eq_getElem hi⟩;obtain ⟨u,hu,ru⟩:=kv_get kv hkv;have hl:kvs.length=vs.length:=Paired.length kv;obtain ⟨ok,ov,he⟩:=st;rw [hl] at he;have hlt:it<s.heap.objs.size:=Heap.lt_size he;refine wpAny_pyNext_items_item he hm hu fun key h' hkey ho hT hz hk=>?_;refine ⟨_,rfl,wpAny_letOwnedTupleGo_items (s:={s with heap:=h'}) ho fun h'' he' sb=>?_⟩;have hT2:h''.get? s.heap.objs.size=some {cls:=.type "tuple",data:=.seq #[key,u]}:=(sb.2 _ (Nat.ne_of_gt hlt)).trans hT;have new:ObjOk X.prog X.w (upd H s.heap.objs.size (.tup [kV k,v])) h'' s.heap.objs.size (.tup [kV k,v]):=
   ⟨by show 2≤sizeLine;decide,[key,u],.cons (relV_key (show keyIs k key=true from hkey)) (.cons ru .nil),⟨_,hT2,rfl,_,rfl⟩⟩
  have I1:Inv X pins σ (upd H s.heap.objs.size (.tup [kV k,v])) {s with heap:=h''}:=
   I.turnedNew (t':=s.toks) (ch:=[it]) (fun b ob hb e=>(sb.2 b (by simpa using hb)).trans (hk b ob (by simpa using hb) e)) hf (Nat.le_refl _) new
  refine ⟨.ref s.heap.objs.size,_,I1,rfl,⟨_,k,v,hkv,rfl,I.hok.fresh (Nat.le_refl _),rfl⟩,⟨key,u,?_⟩,fun b hb=>?_⟩
  ·rw [hl];exact he'
  ·have e:b=it:=by simpa using hb
   rw [e,zac (Nat.ne_of_lt hlt)];exact (hf it (by simp)).1
 done:=by
  intro X hP hw hK hc i pins s σ H E I hf st hg;subst hP hw hK;obtain ⟨hd,hi⟩:=hg;obtain ⟨f0,f1,f2,f3,f4,f5⟩:=hf it (by simp)
  obtain ⟨hs,hgd,hx,es',ep',vs,hdt,hsz,kv,hm⟩:=I.frzK hd;obtain ⟨rfl,rfl⟩:=zpr hod hdt;have hl:kvs.length=vs.length:=Paired.length kv;obtain ⟨ok,ov,he⟩:=st;rw [hl] at he;exact wpAny_pyNext_items_end (I.ok.hd hc) he hm (List.getElem?_eq_none (by omega)) fun h' eb=>⟨rfl,I.turned (t':=s.toks) (fun b ob hb e=>eb b ob hb e) f0 f1 f3 f4 f5⟩
 self:=fun A i s Q E st h=>let ⟨_,_,e⟩:=st;PySem.W.kcp_self e h
end
def iItems (td:TE):TI:=fun σ H R=>td σ H fun x H1=>∃ d o kvs,x=.ref d∧H1 d=some (.frz o (.dK kvs))∧R (Iti d o kvs) H1
section
variable {X:Cx}{tg e:Expr}{td:TE}{apos cpos:Pos}
theorem pi_items {elts:List Expr}{kk:Nat}{tpos:Pos}(he:PE X e td)(hbase:attributeBase e "items" X.env (eval e X.env)=eval e X.env:=by rfl)(hline:(apos.endLine==cpos.line)=true:=by rfl):
  PI X (.Tuple elts kk tpos) (.Call (.Attribute e "items" apos) [] [] cpos) (iItems td):=by
 intro pins s σ H R I h;refine wpAny_Call_method (T:="dict") (id:="dict.items") hbase rfl hline F.plainAttrs_dict F.slot_dict_items F.type_dict_items (thn (he pins s σ H _ I h) fun u s1 ⟨x,H1,I1,rx,d,o,kvs,ex,hd,q⟩=>?_);subst ex;obtain rfl:u=Value.ref d:=rx;obtain ⟨hs,hgd,hx,es,ep,vs,hdt,hsz,kv,hm⟩:=I1.frzK hd;have hl:kvs.length=vs.length:=Paired.length kv;refine ⟨hm.dictOf.typeIs,hm.dictOf.mapOf.noDict,?_⟩;have I2:Inv X pins σ H1 {s1 with heap:=s1.heap.push {cls:=.type "dict_items",data:=.fields #[.ref d]}}:=I1.kept (t':=s1.toks) fun b ob q=>Heap.get?_push_of_some _ q;have fin:wpAny (model X.prog X.w) X.A (pyIter (.ref s1.heap.objs.size)) (PIE X pins σ (.Tuple elts kk tpos) R) X.xe {s1 with heap:=s1.heap.push {cls:=.type "dict_items",data:=.fields #[.ref d]}}:=by
  refine wpAny_pyIter_items (d:=d) (knd:=mixKind X.prog X.w) ⟨_,Heap.get?_push_size _ rfl,rfl,rfl⟩ (hm.push _) (pi_one (tk:=s1.toks) I2 _ (zvs _ hdt) ⟨.none,.none,?_⟩ q);rw [hl];exact Heap.get?_push_size _ rfl
 show wpAny _ _ (callWith cpos (.builtin "dict.items") [.ref d] [] []) _ X.xe s1;exact method_meetsIn F.slot_dict_items F.entry_dict_items rfl (PySem.evalArgs_none ⟨rfl,hm.dictOf.typeIs,F.args_dict_items_1 _,_,meets_dict_items (mixKind X.prog X.w) d hs,⟨vs,hm.dictOf⟩,fin⟩)
end
def Ite (K:PySem.W.Frag)(a:Addr):It:=
 ⟨fun i H=>∃ (xs:List V) (x:V),SqL K H a xs∧xs[i]? = some x,fun i H v H'=>∃ T x,v=.ref T∧H T=none∧H'=upd H T (.tup [.int (i:Nat),x])∧∀ xs,SqL K H a xs→xs[i]? = some x,fun i H=>∃ xs:List V,SqL K H a xs∧xs.length≤i⟩
theorem zxm {P:Program}{w:World}{K:PySem.W.Frag}{elts:List Expr}{kk:Nat}{tpos:Pos}(a e it:Addr):
  Turn P w K (.Tuple elts kk tpos) (Ite K a) [e,it] e (fun i h=>(∃ old,IsEnum h e it ((i:Nat):Int) old)∧h.IsListIter it a i∧e≠it) where
 mem:=by simp
 obj:=fun i h st b hb=>by
  obtain ⟨⟨old,he⟩,⟨o,ho,hc,hd⟩,_⟩:=st;have e':b=e∨b=it:=by simpa using hb
  rcases e' with z | z
  ·rw [z];exact ⟨_,he,fun v q=>nomatch q⟩
  ·rw [z];exact ⟨o,ho,fun v q=>by rw [hd] at q;cases q⟩
 keep:=fun i h h' st k=>let ⟨⟨old,he⟩,hi,hne⟩:=st;⟨⟨old,k e (by simp) _ he⟩,hi.at fun o q=>k it (by simp) o q,hne⟩
 item:=by
  intro X hP hw hK hc i pins s σ H E I hf st hg;subst hP hw hK;obtain ⟨⟨old,he⟩,hit,hne⟩:=st;obtain ⟨xs,x,hq,hx⟩:=hg;obtain ⟨its,rv,p,hz⟩:=I.list hq;obtain ⟨u,hu,ru⟩:=rv.get hx;have hel:e<s.heap.objs.size:=Heap.lt_size he;have hil:it<s.heap.objs.size:=by obtain ⟨_,q,_⟩:=hit;exact Heap.lt_size q
  refine wpAny_pyNext_enum_item he hit p.isList (x:=u) (by simpa using hu) hne fun h' ho hit' hT hsz hk=>?_
  refine ⟨_,rfl,wpAny_letOwnedTupleGo_enum (s:={s with heap:=h',toks:=s.toks+1}) ho fun h'' he' sb=>?_⟩;have hT2:h''.get? s.heap.objs.size=some {cls:=.type "tuple",data:=.seq #[.int i s.toks,u]}:=(sb.2 _ (Nat.ne_of_gt hel)).trans hT;have new:ObjOk X.prog X.w (upd H s.heap.objs.size (.tup [.int (i:Nat),x])) h'' s.heap.objs.size (.tup [.int (i:Nat),x]):=
   ⟨by show 2≤sizeLine;decide,[.int i s.toks,u],.cons ⟨_,rfl⟩ (.cons ru .nil),⟨_,hT2,rfl,_,rfl⟩⟩
  have I1:Inv X pins σ (upd H s.heap.objs.size (.tup [.int (i:Nat),x])) {s with heap:=h'',toks:=s.toks+1}:=
   I.turnedNew (ch:=[e,it]) (fun b ob hb q=>(sb.2 b (fun z=>hb (by simp [z]))).trans (hk b ob (fun z=>hb (by simp [z])) (fun z=>hb (by simp [z])) q)) hf (Nat.le_refl _) new
  refine ⟨.ref s.heap.objs.size,_,I1,rfl,⟨_,x,rfl,I.hok.fresh (Nat.le_refl _),rfl,fun ys hy=>by rw [I.zu8 hy hq];exact hx⟩,⟨⟨u,?_⟩,hit'.at fun o q=>(sb.2 it (Ne.symm hne)).trans q,hne⟩,fun b hb=>?_⟩
  ·have e1:((i+1:Nat):Int)=(i:Int)+1:=by omega
   rw [e1];exact he'
  ·have hb':b<s.heap.objs.size:=by
    have e':b=e∨b=it:=by simpa using hb
    rcases e' with z | z
    ·rw [z];exact hel
    ·rw [z];exact hil
   rw [zac (Nat.ne_of_lt hb')];exact (hf b hb).1
 done:=by
  intro X hP hw hK hc i pins s σ H E I hf st hg;subst hP hw hK;obtain ⟨⟨old,he⟩,hit,hne⟩:=st;obtain ⟨xs,hq,hx⟩:=hg;obtain ⟨its,rv,p,hz⟩:=I.list hq;obtain ⟨f0,f1,f2,f3,f4,f5⟩:=hf it (by simp)
  have hl:=rv.length;exact wpAny_pyNext_enum_end (I.ok.hd hc) he hit p.isList (by simp;omega) fun h' eb=>⟨rfl,I.turned (t':=s.toks) (fun b o hb q=>eb b o hb q) f0 f1 f3 f4 f5⟩
 self:=fun A i s Q E st h=>let ⟨⟨_,he⟩,_⟩:=st;wpAny_pyIter_enum he h
def iEnum (K:PySem.W.Frag)(ta:TA):TI:=fun σ H R=>ta σ H fun vs H1=>∃ a xs,vs=[.ref a]∧SqL K H1 a xs∧R (Ite K a) H1
theorem pi_enum {X:Cx}{e:Expr}{ta:TA}{p pos tpos:Pos}{elts:List Expr}{kk:Nat}(hg:Gl X "enumerate")(hm:X.mg "enumerate"=none)(ha:PA X [e] ta)(hs:starEach [e] X.env=[(false,eval e X.env)]:=by rfl):
  PI X (.Tuple elts kk tpos) (.Call (.Name "enumerate" p) [e] [] pos) (iEnum X.K ta):=by
 intro pins s σ H R I h;refine Call_ (zj6 I hg hm boot_enumerate (PyProof.Rows.callWith_type1 (thn (ha pos pins s σ H _ I h) fun us s1 ⟨vs,H1,I1,r1,q1⟩=>?_) hs rfl));obtain ⟨a,xs,ex,hq,q⟩:=q1;subst ex;cases r1 with
 | cons r rr=>
  cases rr;cases r;obtain ⟨its,rv,p',hz⟩:=I1.list hq;refine call_enumerate_list p'.isList fun h' he hit hsz hk=>wpAny_pyIter_enum he ?_;have I2:Inv X pins σ H1 {s1 with heap:=h'}:=I1.kept (t':=s1.toks) hk;refine ⟨s1.heap.objs.size+1,[s1.heap.objs.size+1,s1.heap.objs.size],_,_,H1,rfl,I2,zxm a (s1.heap.objs.size+1) s1.heap.objs.size,⟨⟨.none,he⟩,hit,Nat.succ_ne_self _⟩,fun b hb=>?_,q⟩;have e':b=s1.heap.objs.size+1∨b=s1.heap.objs.size:=by simpa using hb
  have hle:s1.heap.objs.size≤b:=by
   rcases e' with z | z
   ·rw [z];exact Nat.le_add_right _ _
   ·rw [z];exact Nat.le_refl _
  exact I1.fpOk hle (I1.hok.fresh hle)
end L2
section
namespace Bits
open PySem PyProof.Rows
end Bits
end
section
namespace TL
open PySem PySem.Builtin PySem.Builtin.Str PySem.StrLaws
abbrev tl (x:Str):List Nat:=x.cps.toList
theorem znt (x:Str):x.length=(tl x).length:=by simp [tl,Str.length]
theorem ext_tl {x y:Str}(h:tl x=tl y):x=y:=Str.ext' (Array.toList_inj.mp h)
theorem zns:∀ {l m:List Str},l.map tl=m.map tl→l=m
 | [],[],_=>rfl
 | [],_::_,h=>by simp at h
 | _::_,[],h=>by simp at h
 | x::l,y::m,h=>by
  rw [List.map_cons,List.map_cons] at h;injection h with h1 h2;rw [ext_tl h1,zns h2]
def pre (S l:List Nat):Bool:=l.take S.length==S
def spl (S:List Nat):Nat→List Nat→List Nat→List (List Nat)
 | _,acc,[]=>[acc]
 | 0,acc,c::r=>if pre S (c::r)=true then acc::spl S (S.length - 1) [] r else spl S 0 (acc++[c]) r
 | k+1,acc,_::r=>spl S k acc r
theorem zoi (S:List Nat)(k:Nat)(acc:List Nat):spl S k acc []=[acc]:=by cases k <;> rfl
theorem zxs {S acc r:List Nat}{c:Nat}(h:pre S (c::r)=true):spl S 0 acc (c::r)=acc::spl S (S.length - 1) [] r:=by
 show (if pre S (c::r)=true then acc::spl S (S.length - 1) [] r else spl S 0 (acc++[c]) r)=_
 rw [if_pos h]
theorem zup {S acc r:List Nat}{c:Nat}(h:pre S (c::r)=false):spl S 0 acc (c::r)=spl S 0 (acc++[c]) r:=by
 show (if pre S (c::r)=true then acc::spl S (S.length - 1) [] r else spl S 0 (acc++[c]) r)=_
 rw [if_neg (by rw [h];exact Bool.false_ne_true)]
theorem zuo (S:List Nat):∀ (k:Nat) (acc l:List Nat),spl S k acc l=spl S 0 acc (l.drop k)
 | 0,_,_=>by rw [List.drop_zero]
 | k+1,acc,[]=>by rw [List.drop_nil,zoi,zoi]
 | k+1,acc,c::r=>by
  show spl S k acc r=spl S 0 acc (r.drop k);exact zuo S k acc r
theorem pre_nil {S:List Nat}(hS:S≠[]):pre S []=false:=by
 cases S with
 | nil=>exact absurd rfl hS
 | cons s S=>rfl
theorem zjr {L:List Nat}{a:Nat}(h:a<L.length):∃ c,L.drop a=c::L.drop (a+1):=⟨L[a],List.drop_eq_getElem_cons h⟩
theorem zs4 (S L:List Nat):∀ (m a:Nat) (acc:List Nat),a+m≤L.length→(∀ k,a≤k→k<a+m→pre S (L.drop k)=false)→
  spl S 0 acc (L.drop a)=spl S 0 (acc++(L.drop a).take m) (L.drop (a+m))
 | 0,a,acc,_,_=>by rw [List.take_zero,List.append_nil,Nat.add_zero]
 | m+1,a,acc,h,hn=>by
  have hlt:a<L.length:=by omega
  obtain ⟨c,e⟩:=zjr hlt;have h0:=hn a (Nat.le_refl _) (by omega)
  have ih:=zs4 S L m (a+1) (acc++[c]) (by omega) (fun k h1 h2=>hn k (by omega) (by omega))
  have e2:a+1+m=a+(m+1):=by omega
  rw [e2] at ih;rw [e] at h0;rw [e,zup h0,ih,List.take_succ_cons,List.append_assoc] <;> rfl
theorem drop_two (L:List Nat)(a b:Nat):(L.drop a).drop b=L.drop (a+b):=by
 first
  | rw [List.drop_drop]
  | rw [List.drop_drop,Nat.add_comm]
theorem spl_at {S L:List Nat}(hS:S≠[]){c:Nat}{acc:List Nat}(h:pre S (L.drop c)=true):spl S 0 acc (L.drop c)=acc::spl S 0 [] (L.drop (c+S.length)):=by
 rw [←drop_two];cases e:L.drop c with
 | nil=>rw [e,pre_nil hS] at h;cases h
 | cons d r=>
  rw [e] at h;rw [zxs h,zuo];cases S with
  | nil=>exact absurd rfl hS
  | cons s S=>rfl
theorem at_iff {x y:Str}(hy:tl y≠[])(i:Nat):At x y x.length i↔pre (tl y) ((tl x).drop i)=true:=by
 have hx:=znt x;have hl:=znt y;constructor
 ·intro h;have h2:=h.2;rw [subAt_eq,hl] at h2;exact h2
 ·intro h;have e:((tl x).drop i).take (tl y).length=tl y:=eq_of_beq h;have e1:=congrArg List.length e;rw [List.length_take,List.length_drop] at e1;have e2:0<(tl y).length:=List.length_pos_iff.mpr hy;refine ⟨by omega,?_⟩
  rw [subAt_eq,hl];exact h
theorem no_at {x y:Str}(hy:tl y≠[]){i:Nat}(h:¬ At x y x.length i):pre (tl y) ((tl x).drop i)=false:=by
 cases hp:pre (tl y) ((tl x).drop i) with
 | false=>rfl
 | true=>exact absurd ((at_iff hy i).mpr hp) h
theorem len1 {y:Str}(hy:tl y≠[]):1≤y.length:=by
 have e2:0<(tl y).length:=List.length_pos_iff.mpr hy;rw [znt y];exact e2
theorem zqm (x:Str)(i j:Nat):tl (strSub x i j)=((tl x).drop i).take (j - i):=strSub_toList x i j
theorem zof (x:Str)(i:Nat):tl (strSub x i x.length)=(tl x).drop i:=by
 rw [zqm,znt x];exact List.take_of_length_le (by rw [List.length_drop] <;> omega)
theorem zrb {x y:Str}(hy:tl y≠[]):∀ (cuts:List Nat) (a f:Nat),a≤(tl x).length→ChainG x y x.length a cuts f→(∀ k,f≤k→¬ At x y x.length k)→
  (partsFrom x y.length a cuts).map tl=spl (tl y) 0 [] ((tl x).drop a)
 | [],a,f,ha,h,hn=>by
  have e:f=a:=h;subst e;show [tl (strSub x f x.length)]=_;have run:=zs4 (tl y) (tl x) ((tl x).length - f) f [] (by omega) (fun k h1 _=>no_at hy (hn k h1))
  have e2:f+((tl x).length - f)=(tl x).length:=by omega
  rw [e2,List.drop_length,zoi,List.nil_append,List.take_of_length_le (by rw [List.length_drop] <;> omega)] at run
  rw [run,zof]
 | c::r,a,f,ha,h,hn=>by
  obtain ⟨h1,h2,h3,h4⟩:=h;have hc:c+y.length≤x.length:=h2.1;have hx:=znt x;have hl:=znt y;have ih:=zrb hy r (c+y.length) f (by omega) h4 hn
  show tl (strSub x a c)::(partsFrom x y.length (c+y.length) r).map tl=_;have run:=zs4 (tl y) (tl x) (c - a) a [] (by omega) (fun k k1 k2=>no_at hy (h3 k k1 (by omega)))
  have e2:a+(c - a)=c:=by omega
  rw [e2,List.nil_append,spl_at hy ((at_iff hy c).mp h2)] at run;rw [run,ih,zqm,hl]
theorem zxr (x y:Str)(hy:tl y≠[])(hk:¬ Builtin.Str.strKind x<Builtin.Str.strKind y):(Txt.split x y).map tl=spl (tl y) 0 [] (tl x):=by
 obtain ⟨f,g,hn⟩:=occ_tight x y (len1 hy);have key:=zrb hy _ 0 f (Nat.zero_le _) g hn;rw [List.drop_zero] at key;have none_case:occurrences x y 0 x.length (x.length+1)=[]→[x].map tl=spl (tl y) 0 [] (tl x):=fun ho=>by
  rw [ho] at key;rw [←key];show [tl x]=[tl (strSub x 0 x.length)];rw [sub_whole]
 unfold Txt.split;by_cases h1:(decide (x.length<y.length)||decide (Builtin.Str.strKind x<Builtin.Str.strKind y))=true
 ·rw [if_pos h1];have hlt:x.length<y.length:=by
   simp only [Bool.or_eq_true,decide_eq_true_eq] at h1;rcases h1 with h | h
   ·exact h
   ·exact absurd h hk
  refine none_case ?_;cases ho:occurrences x y 0 x.length (x.length+1) with
  | nil=>rfl
  | cons c r=>
   rw [ho] at g;have hc:c+y.length≤x.length:=g.2.1.1;omega
 ·rw [if_neg h1];by_cases h2:(occurrences x y 0 x.length (x.length+1)).isEmpty=true
  ·rw [if_pos h2];exact none_case (List.isEmpty_iff.mp h2)
  ·rw [if_neg h2,partsBetween_eq];exact key
theorem kind_ok {x y:Str}(h:y.cps.all (·<256)=true):¬ Builtin.Str.strKind x<Builtin.Str.strKind y:=by
 have e:Builtin.Str.strKind y=1:=by unfold PySem.Builtin.Str.strKind;rw [if_pos h]
 rw [e];unfold PySem.Builtin.Str.strKind;split
 ·omega
 ·split <;> omega
end TL
end
namespace L2
open PySem PySem.Spec PyProof.Rows
theorem zqg:∀ l:List (Str×Tok),Vals ((l.map (·.1)).map V.str) (strValues l)
 | []=>.nil
 | p::r=>.cons ⟨p.2,rfl⟩ (zqg r)
theorem zgk:∀ {ys:List Str} {us:List Value},Vals (ys.map V.str) us→StrsAre us ys
 | [],_,.nil=>.nil
 | y::ys,_,.cons r t=>by
  obtain ⟨k,rfl⟩:=r;exact .cons y k (zgk t)
def rNewStrs (ys:List Str):Hp→VK→Prop:=fun H Q=>∀ p,H p=none→Q (.ref p) (upd H p (.lst (ys.map V.str)))
section
variable {X:Cx}{pins:List (Addr×Obj)}{σ:St}{H:Hp}{s:Shared}{Q:VK}
theorem zl0 {l:List (Str×Tok)}{ys:List Str}{k:Nat}(I:Inv X pins σ H s)(e:l.map (·.1)=ys)(hz:ys.length≤sizeLine)(h:rNewStrs ys H Q):
  EP X pins σ Q (.ref s.heap.objs.size) {s with toks:=k,heap:=s.heap.push {cls:=.type "list",data:=.seq (strValues l).toArray}}:=by
 have hp:=I.hok.fresh (Nat.le_refl _);refine ⟨.ref s.heap.objs.size,upd H s.heap.objs.size (.lst (ys.map V.str)),I.laid (fun b u q=>Heap.get?_push_of_some _ q) (Nat.le_refl _) ⟨by rw [List.length_map];exact hz,strValues l,_,?_,Heap.get?_push_size _ rfl⟩,rfl,h _ hp⟩
 rw [←e];exact zqg l
end
section
variable {X:Cx}
theorem mt_split:MtR X "str.split" (fun x xs H Q=>∃ a b,x=.str a∧xs=[.str b]∧(b.length==0)=false∧a.length+2≤sizeLine∧rNewStrs (Txt.split a b) H Q):=by
 intro pins s σ H x xs v us Q I rx rs h;obtain ⟨a,b,rfl,rfl,hb,hz,h⟩:=h;obtain ⟨t,rfl⟩:=rx;cases rs with
 | cons r1 rs=>
  cases rs;obtain ⟨u,rfl⟩:=r1;have hl:(Txt.split a b).length≤sizeLine:=Nat.le_trans (PyProof.Rows.split_le a b) hz;have hn:(Builtin.Str.partsBetween a (Builtin.Str.occurrences a b 0 a.length (a.length+1)) b.length).length≤sizeLine:=by
   have e1:=StrLaws.occ_length_le a b 0 a.length (a.length+1);rw [length_partsBetween];omega
  cases h1:(decide (a.length<b.length)||decide (Builtin.Str.strKind a<Builtin.Str.strKind b))
  ·cases hf:(Builtin.Str.occurrences a b 0 a.length (a.length+1)).isEmpty
   ·refine call_meets F.slot_str_split (typeIs_str _ _ _) F.entry_str_split (F.args_str_split_2 _ _) (meets_str_split_sep a b t u h1 hb hf (by omega) hn) ?_
    show EP X pins σ Q (.ref s.heap.objs.size) {s with toks:=_,heap:=s.heap.push {cls:=.type "list",data:=.seq (strsFrom s.toks (Builtin.Str.partsBetween a (Builtin.Str.occurrences a b 0 a.length (a.length+1)) b.length)).toArray}};rw [strsFrom_eq];exact zl0 (ys:=Txt.split a b) I ((numbered_texts _ _).trans ((if_neg (ne_true_of_eq_false h1)).trans (if_neg (ne_true_of_eq_false hf))).symm) hl h
   ·refine call_meets F.slot_str_split (typeIs_str _ _ _) F.entry_str_split (F.args_str_split_2 _ _) (meets_str_split_not_found a b t u h1 hb hf) ?_;exact zl0 (l:=[(a,t)]) (ys:=Txt.split a b) (k:=s.toks) I ((if_neg (ne_true_of_eq_false h1)).trans (if_pos hf)).symm hl h
  ·refine call_meets F.slot_str_split (typeIs_str _ _ _) F.entry_str_split (F.args_str_split_2 _ _) (meets_str_split_cannot_occur a b t u h1) ?_;exact zl0 (l:=[(a,t)]) (ys:=Txt.split a b) (k:=s.toks) I (if_pos h1).symm hl h
theorem mt_join:MtR X "str.join" (fun x xs H Q=>∃ a p,∃ ys:List Str,x=.str a∧xs=[.ref p]∧(SqL X.K H p (ys.map V.str)∨SqT X.K H p (ys.map V.str))∧
  (ys.map (·.length)).sum+ys.length*a.length≤16777216∧Q (.str (Txt.join a ys)) H):=by
 intro pins s σ H x xs v us Q I rx rs h;obtain ⟨a,p,ys,rfl,rfl,hp,hz,h⟩:=h;obtain ⟨t,rfl⟩:=rx;cases rs with
 | cons r1 rs=>
  cases rs;cases r1;rcases hp with hp | hp
  ·obtain ⟨its,r,⟨o,n,ho,hc,_,hd⟩,_⟩:=I.list hp;exact PyProof.Rows.join_list (items:=its.toArray) ⟨o,ho,hc,n,hd⟩ (by rw [List.toList_toArray];exact zgk r) hz fun t' k=>⟨.str _,H,I.tok k,⟨t',rfl⟩,h⟩
  ·obtain ⟨its,r,ht,_⟩:=I.tuple hp;exact PyProof.Rows.join_tuple (items:=its.toArray) ht (by rw [List.toList_toArray];exact zgk r) hz fun t' k=>⟨.str _,H,I.tok k,⟨t',rfl⟩,h⟩
theorem mt0 {id:String}{C:Str→Prop}{g:Str→V}(rule:∀ (a:Str) (t:Tok) (s:Shared) (Q:Value→Shared→Prop),C a→(∀ (u:Value) (k:Nat),RelV (g a) u→Q u {s with toks:=k})→
  wpAny (model X.prog X.w) X.A (call (.builtin id) [.str a t]) Q X.xe s):MtR X id (fun x xs H Q=>∃ a,x=.str a∧xs=[]∧C a∧Q (g a) H):=by
 intro pins s σ H x xs v us Q I rx rs h;obtain ⟨a,rfl,rfl,hc,h⟩:=h;obtain ⟨t,rfl⟩:=rx;cases rs;exact rule a t s _ hc fun u k r=>⟨g a,H,I.tok k,r,h⟩
theorem zwe:MtR X "str.isdigit" (fun x xs H Q=>∃ a,x=.str a∧xs=[]∧True∧Q (.bl (Txt.isdigit a)) H):=
 mt0 (C:=fun _=>True) (g:=fun a=>.bl (Txt.isdigit a)) fun _ _ s _ _ h=>PySem.SC.isdigit (h _ s.toks rfl)
theorem mt1 {id:String}{g:Str→Str→V}(rule:∀ (a b:Str) (t u:Tok) (s:Shared) (Q:Value→Shared→Prop),(∀ (v:Value) (k:Nat),RelV (g a b) v→Q v {s with toks:=k})→
  wpAny (model X.prog X.w) X.A (call (.builtin id) [.str a t,.str b u]) Q X.xe s):MtR X id (fun x xs H Q=>∃ a b,x=.str a∧xs=[.str b]∧Q (g a b) H):=by
 intro pins s σ H x xs v us Q I rx rs h;obtain ⟨a,b,rfl,rfl,h⟩:=h;obtain ⟨t,rfl⟩:=rx;cases rs with
 | cons r1 rs=>
  cases rs;obtain ⟨u,rfl⟩:=r1;exact rule a b t u s _ fun v k r=>⟨g a b,H,I.tok k,r,h⟩
theorem zpc:MtR X "str.startswith" (fun x xs H Q=>∃ a b,x=.str a∧xs=[.str b]∧Q (.bl (Txt.startswith a b)) H):=
 mt1 (g:=fun a b=>.bl (Txt.startswith a b)) fun _ _ _ _ s _ h=>PySem.SC.startswith (h _ s.toks rfl)
theorem zsf:CallR X (.type "int") (fun xs H Q=>∃ a n,xs=[.str a]∧PySem.intText? a=some n∧a.length≤640∧Q (.int n) H):=by
 intro pins s σ H xs us Q I rs h;obtain ⟨a,n,rfl,hn,hl,h⟩:=h;cases rs with
 | cons r1 rs=>
  cases rs;obtain ⟨t,rfl⟩:=r1;exact PySem.W.KIN.call_text hn hl ⟨.int n,H,I.tok _,⟨_,rfl⟩,h⟩
end
section
variable {X:Cx}{o e:Expr}{to te:TE}
def tM0 (r:V→List V→Hp→VK→Prop)(to:TE):TE:=fun σ H Q=>to σ H fun x H1=>(∃ a,x=.str a)∧r x [] H1 Q
def tM1 (r:V→List V→Hp→VK→Prop)(to te:TE):TE:=fun σ H Q=>to σ H fun x H1=>(∃ a,x=.str a)∧te σ H1 fun y H2=>r x [y] H2 Q
theorem pe_m0 {id:String}{name:Str}{apos pos:Pos}{r:V→List V→Hp→VK→Prop}(slot:Slot "str" name id)(ty:typeOf (.builtin id)=pure (.type "method_descriptor"))(rule:MtR X id r)(ho:PE X o to)(hbase:attributeBase o name X.env (eval o X.env)=eval o X.env:=by rfl)(hline:(apos.endLine==pos.line)=true:=by rfl):PE X (.Call (.Attribute o name apos) [] [] pos) (tM0 r to):=by
 intro pins s σ H Q I h;refine PySem.Call_method0 hbase hline (thn (ho pins s σ H _ I h) fun v s1 ⟨x,H1,I1,r1,q1⟩=>?_);obtain ⟨⟨a,rfl⟩,q1⟩:=q1;obtain ⟨t,rfl⟩:=_root_.id r1;exact ⟨"str",_,F.plainAttrs_str,slot,ty,typeIs_str _ _ _,(fun _ e=>nomatch e),Calls.callWith_builtin rfl (PySem.evalArgs_none (rule pins s1 σ H1 _ [] _ [] Q I1 r1 .nil q1))⟩
theorem pe_m1 {id:String}{name:Str}{apos pos:Pos}{r:V→List V→Hp→VK→Prop}(slot:Slot "str" name id)(ty:typeOf (.builtin id)=pure (.type "method_descriptor"))(rule:MtR X id r)(ho:PE X o to)(he:PE X e te)(hs:starEach [e] X.env=[(false,eval e X.env)]:=by rfl)(hbase:attributeBase o name X.env (eval o X.env)=eval o X.env:=by rfl)(hline:(apos.endLine==pos.line)=true:=by rfl):
  PE X (.Call (.Attribute o name apos) [e] [] pos) (tM1 r to te):=by
 intro pins s σ H Q I h;refine PySem.Call_method1 hbase hs hline (thn (ho pins s σ H _ I h) fun v s1 ⟨x,H1,I1,r1,q1⟩=>?_);obtain ⟨⟨a,rfl⟩,q1⟩:=q1;obtain ⟨t,rfl⟩:=_root_.id r1;refine ⟨"str",_,F.plainAttrs_str,slot,ty,typeIs_str _ _ _,(fun _ e=>nomatch e),Calls.callWith_builtin rfl (Calls.evalArgs_plain (Calls.spliced_cons ?_))⟩
 exact thn (he pins s1 σ H1 _ I1 q1) fun u s2 ⟨y,H2,I2,r2,q2⟩=>Calls.spliced_nil (rule pins s2 σ H2 _ [y] _ [u] Q I2 r1 (.cons r2 .nil) q2)
theorem zu0 {apos pos:Pos}(ho:PE X o to)(he:PE X e te)(hs:starEach [e] X.env=[(false,eval e X.env)]:=by rfl)(hbase:attributeBase o "split" X.env (eval o X.env)=eval o X.env:=by rfl)(hline:(apos.endLine==pos.line)=true:=by rfl):
  PE X (.Call (.Attribute o "split" apos) [e] [] pos) (tM1 (fun x xs H Q=>∃ a b,x=.str a∧xs=[.str b]∧(b.length==0)=false∧a.length+2≤sizeLine∧rNewStrs (Txt.split a b) H Q) to te):=
 pe_m1 F.slot_str_split F.type_str_split mt_split ho he hs hbase hline
theorem pe_join {apos pos:Pos}(ho:PE X o to)(he:PE X e te)(hs:starEach [e] X.env=[(false,eval e X.env)]:=by rfl)(hbase:attributeBase o "join" X.env (eval o X.env)=eval o X.env:=by rfl)(hline:(apos.endLine==pos.line)=true:=by rfl):
  PE X (.Call (.Attribute o "join" apos) [e] [] pos) (tM1 (fun x xs H Q=>∃ a p,∃ ys:List Str,x=.str a∧xs=[.ref p]∧(SqL X.K H p (ys.map V.str)∨SqT X.K H p (ys.map V.str))∧
   (ys.map (·.length)).sum+ys.length*a.length≤16777216∧Q (.str (Txt.join a ys)) H) to te):=
 pe_m1 F.slot_str_join F.type_str_join mt_join ho he hs hbase hline
end
end L2
namespace L2
open PySem PySem.Spec PyProof.Rows
section
variable {X:Cx}
theorem zoy:OpR X (compareOp .NotIn) (fun x y H Q=>∃ (c:Nat) (z:Str),x=.str ⟨#[c]⟩∧y=.str z∧Q (.bl (!decide (c∈z.cps.toList))) H):=by
 intro pins s σ H x y v u Q I rx ry h;obtain ⟨c,z,rfl,rfl,q⟩:=h;obtain ⟨t,rfl⟩:=rx;obtain ⟨t',rfl⟩:=ry;exact PyProof.Rows.notIn_str (zbf I q (congrArg Bool.not (PySem.StrLaws.found_one z c).symm))
end
end L2
namespace Att
open PySem PySem.W PySem.Calls PyProof.Rows
section
variable {prog:Program}{w:World}{A:Around}{E:Value→Shared→Prop}{s:Shared}{K:Frag}
end
end Att
namespace L2
open PySem PySem.Spec PyProof.Rows
end L2
namespace L2
open PySem PySem.Spec PyProof.Rows
end L2
namespace L2
open PySem PySem.Spec PyProof.Rows
def inClass (s:Stmt)(j:Nat):Stmt:=match s with
 | .ClassDef _ _ _ body _ _ _ _ _ _ _=>body.getD j (.Pass ⟨0,0,0,0⟩)
 | _=>.Pass ⟨0,0,0,0⟩
def defArgs (s:Stmt):Arguments:=match s with
 | .FunctionDef _ a _ _ _ _ _ _ _ _=>a
 | _=>{posonlyargs:=[],args:=[],vararg:=none,kwonlyargs:=[],kw_defaults:=[],kwarg:=none,defaults:=[]}
def defBody (s:Stmt):List Stmt:=match s with
 | .FunctionDef _ _ b _ _ _ _ _ _ _=>b
 | _=>[]
def defScope (s:Stmt):Scope:=match s with
 | .FunctionDef _ _ _ _ _ _ sc _ _ _=>sc
 | _=>{kind:=.function,names:=[],isGenerator:=false,isCoroutine:=false}
abbrev CX0:CXT:=fun _ _ _ _ _ _=>False
abbrev E0:XK:=fun _ _ _=>False
theorem pass0 {X:Cx}:Passes CX0 X E0:=fun _ _ _ _ _ _ _ h=>h.elim
structure Fun (K:PySem.W.Frag)(x qual:Str)(st:Stmt)(f:Addr)(fd:FuncData):Prop where
 ex:∃ (oc:Value) (od:Option Addr) (kV doc pm:Value) (an:Option Addr) (cdv ct:Value) (osl:Array (Option Value)),
  fd=PySem.W.fnOf x qual (defArgs st) (defBody st) (defScope st) .none kV doc pm an cdv ct∧K.lookup f=some ⟨oc,od,.func fd,osl⟩∧PySem.W.codeIn K cdv qual=true
 kp:PySem.W.keepIn K (.ref f)=true
section
variable {P:Program}{w:World}{K:PySem.W.Frag}{mg:Str→Option Value}{base:Heap}
theorem Fun.ok {x qual:Str}{st:Stmt}{f:Addr}{fd:FuncData}{N ps:List Str}{k:Nat}{sp:Sp}(F:Fun K x qual st f fd)(S:FnScope N ps (defScope st))(len:∀ vs H Q E,sp vs H Q E→vs.length=ps.length)(hbody:∀ (cdv:Value) (A:Around) (outer:List Env) (s:Shared) (H:Hp) (vs:List V) (Q:VK) (E:XK),Room k (A.deeper (envOfC qual (defScope st) s.heap.objs.size f cdv))→sp vs H Q E→
   ∃ t,PSs (cxOf CX0 P w K mg base N qual (defScope st) f cdv A outer s H E).nox (defBody st) t∧t {nx:=fun _ H'=>Q .non H',rt:=Q} (start N vs) H):FnOk P w K mg base CX0 (k+1) f fd ps sp:=by
 obtain ⟨oc,od,kV,doc,pm,an,cdv,ct,osl,rfl,lk,hcd⟩:=F.ex;refine fn_of lk hcd S len fun A outer s H vs Q E hr hsp=>?_;obtain ⟨t,h,q⟩:=hbody cdv A outer s H vs Q E hr hsp;exact ⟨t,h.nox,q⟩
theorem Fun.binds {x qual:Str}{st:Stmt}{f:Addr}{fd:FuncData}{ps:List Str}(F:Fun K x qual st f fd)(h:∀ (kV doc pm:Value) (an:Option Addr) (cdv ct:Value) (us:List Value),us.length=ps.length→bindArgs (PySem.W.fnOf x qual (defArgs st) (defBody st) (defScope st) .none kV doc pm an cdv ct) ⟨us,[]⟩=pure (ps.zip us)):Binds K fd ps []:=by
 obtain ⟨oc,od,kV,doc,pm,an,cdv,ct,osl,rfl,lk,hcd⟩:=F.ex;exact .all (h kV doc pm an cdv ct)
theorem zvc {x qual:Str}{st:Stmt}{f:Addr}{oc:Value}{od an:Option Addr}{osl:Array (Option Value)}{kV doc pm cdv ct:Value}(l:K.lookup f=some ⟨oc,od,.func (PySem.W.fnOf x qual (defArgs st) (defBody st) (defScope st) .none kV doc pm an cdv ct),osl⟩)(c:PySem.W.codeIn K cdv qual=true)(k:PySem.W.keepIn K (.ref f)=true):Fun K x qual st f (PySem.W.fnOf x qual (defArgs st) (defBody st) (defScope st) .none kV doc pm an cdv ct):=⟨⟨oc,od,kV,doc,pm,an,cdv,ct,osl,rfl,l,c⟩,k⟩
end
theorem zf8 {A:Around}{k:Nat}(hr:Room k A):A.units+1<cLine:=Nat.lt_of_le_of_lt (Nat.add_le_add_left (by decide:1≤64) _) hr.units
section
variable {X:Cx}
theorem pv (i:Nat){x:Str}{pos:Pos}(hN:X.N[i]? = some x:=by rfl)(hv:Vis X.env.scope x:=by first | exact Or.inl rfl | exact Or.inr (Or.inl rfl) | exact Or.inr (Or.inr rfl))(hd:(x==("__debug__":Str))=false:=by decide)(hcd:(x==("__classdict__":Str))=false:=by decide):PE X (.Name x pos) (tVar i):=pe_var hN hv hd hcd
theorem call_lenD:CallR X (.builtin "len") (fun xs H Q=>∃ a kvs,xs=[V.ref a]∧H a=some (.dK kvs)∧Q (.int kvs.length) H):=by
 intro pins s σ H xs us Q I r h;obtain ⟨a,kvs,rfl,ha,q⟩:=h;obtain ⟨u,rfl,ru⟩:=vals1 r;cases ru;exact d_len I (.inl ha) fun t s' I'=>⟨.int kvs.length,H,I',⟨t,rfl⟩,q⟩
end
def Same (H H':Hp):Prop:=∀ b o,H b=some o→H' b=some o
theorem Same.refl (H:Hp):Same H H:=fun _ _ h=>h
theorem Same.trans {H H1 H2:Hp}(a:Same H H1)(b:Same H1 H2):Same H H2:=fun c o h=>b c o (a c o h)
theorem Same.free {H H':Hp}(e:Same H H'){l:Addr}(h:H' l=Option.none):H l=Option.none:=by
 cases q:H l with
 | none=>rfl
 | some o=>
  rw [e l o q] at h;cases h
theorem Same.seq {K:PySem.W.Frag}{H H':Hp}{a:Addr}{xs:List V}(e:Same H H')(h:SqL K H a xs):SqL K H' a xs:=by
 rcases h with (h | ⟨o,h⟩) | h
 ·exact .inl (.inl (e _ _ h))
 ·exact .inl (.inr ⟨o,e _ _ h⟩)
 ·exact .inr h
section
variable {κ:Type}[DecidableEq κ]
end
end L2
end
section
section
set_option linter.all false
set_option maxHeartbeats 2000000
namespace L2
open PySem PySem.Spec PyProof.Rows
open PySem.W (WData Codec OpenSpec Well WellAll ReadsW ReadsAllW)
mutual
inductive Dw (K:PySem.W.Frag)(H:Hp):V→WData→Prop
 | non:Dw K H .non .none
 | bl (b:Bool):Dw K H (.bl b) (.bool b)
 | int (i:Int):Dw K H (.int i) (.int i)
 | str (x:Str):Dw K H (.str x) (.str x)
 | byt (b:Array UInt8):Dw K H (.byt b) (.bytes b.toList)
 | lst {a:Addr} {xs:List V} {ds:List WData}:SqL K H a xs→DwAll K H xs ds→Dw K H (.ref a) (.list ds)
 | tup {a:Addr} {xs:List V} {ds:List WData}:SqT K H a xs→DwAll K H xs ds→Dw K H (.ref a) (.tuple ds)
inductive DwAll (K:PySem.W.Frag)(H:Hp):List V→List WData→Prop
 | nil:DwAll K H [] []
 | cons {v:V} {vs:List V} {d:WData} {ds:List WData}:Dw K H v d→DwAll K H vs ds→DwAll K H (v::vs) (d::ds)
end
theorem dw_ints {K:PySem.W.Frag}{H:Hp}:∀ ns:List Int,DwAll K H (ns.map V.int) (ns.map WData.int)
 | []=>.nil
 | n::r=>.cons (.int n) (dw_ints r)
theorem ints_dw {K:PySem.W.Frag}{H:Hp}:∀ (ns:List Int) (xs:List V),DwAll K H xs (ns.map WData.int)→xs=ns.map V.int
 | [],xs,h=>by
  cases h;rfl
 | n::r,xs,h=>by
  cases h with
  | cons h1 h2=>
   cases h1;rw [ints_dw r _ h2] <;> rfl
section
variable {P:Program}{w:World}{K:PySem.W.Frag}{H:Hp}{h:Heap}{R:PySem.W.WRecords}{cl:Str→Option Addr}
theorem sqL_at {a:Addr}{xs:List V}(hok:HOk P w H h)(KX:K.In h)(q:SqL K H a xs):∃ (its:List Value) (o:Obj) (n:Nat),Vals xs its∧h.get? a=some o∧o.cls=.type "list"∧o.data=.seq its.toArray n:=by
 rcases q with q | ⟨o,its,n,e,hc,_,hd,_,hv⟩
 ·obtain ⟨_,its,n,hv,e⟩:=(show ObjOk P w H h a (.lst xs) from q.ok hok)
  exact ⟨its,_,n,hv,e,rfl,rfl⟩
 ·exact ⟨its.toList,o,n,hv,KX _ _ e,hc,by simp [hd]⟩
theorem sqT_at {a:Addr}{xs:List V}(hok:HOk P w H h)(KX:K.In h)(q:SqT K H a xs):∃ (its:List Value) (o:Obj) (n:Nat),Vals xs its∧h.get? a=some o∧o.cls=.type "tuple"∧o.data=.seq its.toArray n:=by
 rcases q with q | ⟨o,its,n,e,hc,hd,_,hv⟩
 ·obtain ⟨_,its,hv,o,e,hc,n,hd⟩:=(show ObjOk P w H h a (.tup xs) from q.ok hok)
  exact ⟨its,o,n,hv,e,hc,hd⟩
 ·exact ⟨its.toList,o,n,hv,KX _ _ e,hc,by simp [hd]⟩
mutual
theorem Dw.reads (hok:HOk P w H h)(KX:K.In h):∀ (d:WData) (v:V) (u:Value),Dw K H v d→RelV v u→∃ as,ReadsW R cl h u d as
 | .none,_,_,x,r=>by
  cases x;cases r;exact ⟨_,ReadsW.none⟩
 | .bool b,_,_,x,r=>by
  cases x;cases r;exact ⟨_,ReadsW.bool b⟩
 | .int i,_,_,x,r=>by
  cases x;obtain ⟨t,rfl⟩:=r;exact ⟨_,ReadsW.int i t⟩
 | .str s,_,_,x,r=>by
  cases x;obtain ⟨t,rfl⟩:=r;exact ⟨_,ReadsW.str s t⟩
 | .bytes b,_,_,x,r=>by
  cases x;obtain ⟨t,rfl⟩:=r;exact ⟨_,ReadsW.bytes _ t⟩
 | .list ds,_,_,x,r=>by
  cases x with
  | lst hs ha=>
   cases r;obtain ⟨its,o,n,rv,ho,hc,hd⟩:=sqL_at hok KX hs;obtain ⟨as,hr⟩:=Dw.readsAll hok KX ds _ its ha rv;exact ⟨_,ReadsW.list ho hc hd hr⟩
 | .tuple ds,_,_,x,r=>by
  cases x with
  | tup hs ha=>
   cases r;obtain ⟨its,o,n,rv,ho,hc,hd⟩:=sqT_at hok KX hs;obtain ⟨as,hr⟩:=Dw.readsAll hok KX ds _ its ha rv;exact ⟨_,ReadsW.tuple ho hc hd hr⟩
 | .float _,_,_,x,_=>by cases x
 | .dict _,_,_,x,_=>by cases x
 | .bytearray _,_,_,x,_=>by cases x
 | .set _,_,_,x,_=>by cases x
 | .frozenset _,_,_,x,_=>by cases x
 | .obj _ _,_,_,x,_=>by cases x
theorem Dw.readsAll (hok:HOk P w H h)(KX:K.In h):∀ (ds:List WData) (vs:List V) (us:List Value),DwAll K H vs ds→Vals vs us→∃ as,ReadsAllW R cl h us ds as
 | [],_,_,x,r=>by
  cases x;cases r;exact ⟨_,ReadsAllW.nil⟩
 | d::ds,_,_,x,r=>by
  cases x with
  | cons h1 h2=>
   cases r with
   | cons r1 r2=>
    obtain ⟨as,q1⟩:=Dw.reads hok KX d _ _ h1 r1;obtain ⟨bs,q2⟩:=Dw.readsAll hok KX ds _ _ h2 r2;exact ⟨_,ReadsAllW.cons q1 q2⟩
end
end
mutual
def plW:WData→Bool
 | .none=>true
 | .bool _=>true
 | .int _=>true
 | .str _=>true
 | .bytes _=>true
 | .list xs=>plWs xs
 | .tuple xs=>plWs xs
 | _=>false
def plWs:List WData→Bool
 | []=>true
 | x::r=>plW x&&plWs r
end
theorem zuy {α:Type}{f:α→WData}(h:∀ a,plW (f a)=true):∀ l:List α,plWs (l.map f)=true
 | []=>rfl
 | x::r=>by
  show (plW (f x)&&plWs (r.map f))=true;rw [h x,zuy h r] <;> rfl
theorem zj2:∀ (c:Codec) (a:c.denote),plW (c.enc a)=true
 | .unit,_=>rfl
 | .bool,_=>rfl
 | .int _ _,_=>rfl
 | .nat _ _,_=>rfl
 | .u8,_=>rfl
 | .bytes _ _,_=>rfl
 | .text _ _ _ _,_=>rfl
 | .list _ _ c,a=>zuy (fun x=>zj2 c x) a
 | .pair c d,a=>by
  show (plW (c.enc a.1)&&(plW (d.enc a.2)&&true))=true;rw [zj2 c a.1,zj2 d a.2] <;> rfl
 | .triple c d e,a=>by
  show (plW (c.enc a.1)&&(plW (d.enc a.2.1)&&(plW (e.enc a.2.2)&&true)))=true;rw [zj2 c a.1,zj2 d a.2.1,zj2 e a.2.2] <;> rfl
 | .option c,none=>rfl
 | .option c,some x=>zj2 c x
theorem zq8:∀ (cs:List Codec) (a:Codec.denoteAll cs),plWs (Codec.encAll cs a)=true
 | [],_=>rfl
 | c::cs,a=>by
  show (plW (c.enc a.1)&&plWs (Codec.encAll cs a.2))=true;rw [zj2 c a.1,zq8 cs a.2] <;> rfl
theorem zja:∀ {xs:List WData} {d:WData},d∈xs→d.weight≤WData.weightAll xs
 | [],d,h=>absurd h (by simp)
 | x::r,d,h=>by
  show d.weight≤x.weight+1+WData.weightAll r;rcases List.mem_cons.mp h with e | m
  ·rw [e];omega
  ·have z:=zja m;omega
def toV:Value→V
 | .none=>.non
 | .bool b=>.bl b
 | .int i _=>.int i
 | .str x _=>.str x
 | .bytes b _=>.byt b
 | .ref a=>.ref a
 | _=>.non
def OkU (A:List Addr):Value→Prop
 | .none=>True
 | .bool _=>True
 | .int _ _=>True
 | .str _ _=>True
 | .bytes _ _=>True
 | .ref a=>a∈A
 | _=>False
theorem OkU.mono {A B:List Addr}(h:∀ a∈A,a∈B):∀ {u:Value},OkU A u→OkU B u:=fun {u} x=>by
 cases u with
 | ref a=>exact h a x
 | none=>trivial
 | bool b=>trivial
 | int i t=>trivial
 | str s t=>trivial
 | bytes b t=>trivial
 | _=>exact False.elim x
theorem relV_toV {A:List Addr}{u:Value}(x:OkU A u):RelV (toV u) u:=by
 cases u with
 | ref a=>rfl
 | none=>rfl
 | bool b=>rfl
 | int i t=>exact ⟨t,rfl⟩
 | str s t=>exact ⟨t,rfl⟩
 | bytes b t=>exact ⟨t,rfl⟩
 | _=>exact False.elim x
theorem zhi {A:List Addr}:∀ {vs:List Value},(∀ u∈vs,OkU A u)→Vals (vs.map toV) vs
 | [],_=>.nil
 | u::r,h=>.cons (relV_toV (h u (List.mem_cons_self ..))) (zhi fun x hx=>h x (List.mem_cons_of_mem _ hx))
def ArgOb (h:Heap)(A:List Addr)(a:Addr):Prop:=∃ vs:List Value,vs.length≤sizeLine∧(∀ u∈vs,OkU A u)∧
 (h.get? a=some {cls:=.type "list",data:=.seq vs.toArray}∨h.get? a=some {cls:=.type "tuple",data:=.seq vs.toArray})
theorem ArgOb.mono {h:Heap}{A B:List Addr}{a:Addr}(k:∀ a∈A,a∈B)(x:ArgOb h A a):ArgOb h B a:=by
 obtain ⟨vs,h1,h2,h3⟩:=x;exact ⟨vs,h1,fun u hu=>(h2 u hu).mono k,h3⟩
theorem zfm {P:Params}{h:Heap}:∀ {vs:List Value} {ds:List WData},WellAll P h vs ds→vs.length=ds.length
 | _,_,.nil=>rfl
 | _,_,.cons _ b=>by
  show _+1=_+1;rw [zfm b]
theorem zqc {P:Params}{h:Heap}{v:Value}{ds:List WData}(x:Well P h v (.list ds)):∃ (a:Addr) (vs:List Value),v=.ref a∧h.get? a=some {cls:=.type "list",data:=.seq vs.toArray}∧WellAll P h vs ds:=by
 cases x with
 | list ho hall=>exact ⟨_,_,rfl,ho,hall⟩
theorem znd {P:Params}{h:Heap}{v:Value}{ds:List WData}(x:Well P h v (.tuple ds)):∃ (a:Addr) (vs:List Value),v=.ref a∧h.get? a=some {cls:=.type "tuple",data:=.seq vs.toArray}∧WellAll P h vs ds:=by
 cases x with
 | tuple ho hall=>exact ⟨_,_,rfl,ho,hall⟩
theorem zqd {P:Params}{h:Heap}{us:List Value}{d:WData}{ds:List WData}(x:WellAll P h us (d::ds)):∃ (v:Value) (vs:List Value),us=v::vs∧Well P h v d∧WellAll P h vs ds:=by
 cases x with
 | cons a b=>exact ⟨_,_,rfl,a,b⟩
theorem line_of {n:Nat}(h:n≤1048576):n≤sizeLine:=Nat.le_trans h (by decide)
section
variable {P:Params}{h:Heap}
mutual
theorem area_one:∀ (d:WData) (v:Value),Well P h v d→plW d=true→d.weight≤1048576→∃ A:List Addr,OkU A v∧∀ a∈A,ArgOb h A a
 | .none,_,x,_,_=>by
  cases x;exact ⟨[],trivial,fun a m=>absurd m (by simp)⟩
 | .bool b,_,x,_,_=>by
  cases x;exact ⟨[],trivial,fun a m=>absurd m (by simp)⟩
 | .int i,_,x,_,_=>by
  cases x;exact ⟨[],trivial,fun a m=>absurd m (by simp)⟩
 | .str s,_,x,_,_=>by
  cases x;exact ⟨[],trivial,fun a m=>absurd m (by simp)⟩
 | .bytes b,_,x,_,_=>by
  cases x;exact ⟨[],trivial,fun a m=>absurd m (by simp)⟩
 | .list ds,_,x,p,z=>by
  obtain ⟨a,vs,rfl,ho,hall⟩:=zqc x;have z2:WData.weightAll ds≤1048576:=z;obtain ⟨A,h1,h2⟩:=zk9 ds _ hall p fun d hd=>Nat.le_trans (zja hd) z2;have k:∀ b∈A,b∈a::A:=fun b hb=>List.mem_cons_of_mem _ hb;refine ⟨a::A,List.mem_cons_self ..,fun b hb=>?_⟩;rcases List.mem_cons.mp hb with e | m
  ·rw [e];exact ⟨vs,line_of (by rw [zfm hall];exact Nat.le_trans (PySem.W.length_le_weightAllW ds) z2),fun u hu=>(h1 u hu).mono k,.inl ho⟩
  ·exact (h2 b m).mono k
 | .tuple ds,_,x,p,z=>by
  obtain ⟨a,vs,rfl,ho,hall⟩:=znd x;have z2:WData.weightAll ds≤1048576:=z;obtain ⟨A,h1,h2⟩:=zk9 ds _ hall p fun d hd=>Nat.le_trans (zja hd) z2;have k:∀ b∈A,b∈a::A:=fun b hb=>List.mem_cons_of_mem _ hb;refine ⟨a::A,List.mem_cons_self ..,fun b hb=>?_⟩;rcases List.mem_cons.mp hb with e | m
  ·rw [e];exact ⟨vs,line_of (by rw [zfm hall];exact Nat.le_trans (PySem.W.length_le_weightAllW ds) z2),fun u hu=>(h1 u hu).mono k,.inr ho⟩
  ·exact (h2 b m).mono k
 | .float _,_,_,p,_=>Bool.noConfusion (show false=true from p)
 | .dict _,_,_,p,_=>Bool.noConfusion (show false=true from p)
 | .bytearray _,_,_,p,_=>Bool.noConfusion (show false=true from p)
 | .set _,_,_,p,_=>Bool.noConfusion (show false=true from p)
 | .frozenset _,_,_,p,_=>Bool.noConfusion (show false=true from p)
 | .obj _ _,_,_,p,_=>Bool.noConfusion (show false=true from p)
theorem zk9:∀ (ds:List WData) (vs:List Value),WellAll P h vs ds→plWs ds=true→(∀ d∈ds,d.weight≤1048576)→∃ A:List Addr,(∀ u∈vs,OkU A u)∧∀ a∈A,ArgOb h A a
 | [],_,x,_,_=>by
  cases x;exact ⟨[],fun u m=>absurd m (by simp),fun a m=>absurd m (by simp)⟩
 | d::ds,_,x,p,z=>by
  obtain ⟨v,vs,rfl,x1,x2⟩:=zqd x;have q:plW d=true∧plWs ds=true:=Bool.and_eq_true_iff.mp p;obtain ⟨A,a1,a2⟩:=area_one d v x1 q.1 (z d (List.mem_cons_self ..));obtain ⟨B,b1,b2⟩:=zk9 ds vs x2 q.2 fun e he=>z e (List.mem_cons_of_mem _ he);have kA:∀ b∈A,b∈A++B:=fun b hb=>List.mem_append.mpr (.inl hb);have kB:∀ b∈B,b∈A++B:=fun b hb=>List.mem_append.mpr (.inr hb);refine ⟨A++B,fun u hu=>?_,fun b hb=>?_⟩
  ·rcases List.mem_cons.mp hu with e | m
   ·rw [e];exact a1.mono kA
   ·exact (b1 u m).mono kB
  ·rcases List.mem_append.mp hb with m | m
   ·exact (a2 b m).mono kA
   ·exact (b2 b m).mono kB
end
end
def hoOf (o:Obj):Option HO:=match o.data with
 | .seq vs _=>if (o.cls==Value.type "list")=true then some (.frz o (.lst (vs.toList.map toV))) else some (.frz o (.tup (vs.toList.map toV)))
 | _=>none
def argH (K:PySem.W.Frag)(h:Heap)(A:List Addr):Hp:=fun b=>if b∈A then (if (K.lookup b).isNone=true then (h.get? b).bind hoOf else none) else none
def OnlyF (H:Hp):Prop:=∀ b,H b=none∨∃ o u,H b=some (.frz o u)
theorem zvb (vs:List Value):hoOf {cls:=.type "list",data:=.seq vs.toArray}=some (.frz {cls:=.type "list",data:=.seq vs.toArray} (.lst (vs.map toV))):=by
 show (if (Value.type "list"==Value.type "list")=true then some (HO.frz {cls:=.type "list",data:=.seq vs.toArray} (.lst (vs.toArray.toList.map toV))) else some (HO.frz {cls:=.type "list",data:=.seq vs.toArray} (.tup (vs.toArray.toList.map toV))))=_
 rw [if_pos (beq_self_eq_true _)]
theorem zva (vs:List Value):hoOf {cls:=.type "tuple",data:=.seq vs.toArray}=some (.frz {cls:=.type "tuple",data:=.seq vs.toArray} (.tup (vs.map toV))):=by
 show (if (Value.type "tuple"==Value.type "list")=true then some (HO.frz {cls:=.type "tuple",data:=.seq vs.toArray} (.lst (vs.toArray.toList.map toV))) else some (HO.frz {cls:=.type "tuple",data:=.seq vs.toArray} (.tup (vs.toArray.toList.map toV))))=_
 rw [if_neg (by decide)]
section
variable {P:Program}{w:World}{K:PySem.W.Frag}{h:Heap}{A:List Addr}
theorem zp9 {b:Addr}{o:Obj}(hb:b∈A)(hk:K.lookup b=none)(e:h.get? b=some o):argH K h A b=hoOf o:=by
 unfold argH;rw [if_pos hb,hk,if_pos (show (none:Option Obj).isNone=true from rfl),e] <;> rfl
theorem of_argH {b:Addr}{u:HO}(q:argH K h A b=some u):b∈A∧K.lookup b=none:=by
 unfold argH at q;by_cases hb:b∈A
 ·rw [if_pos hb] at q;cases hk:K.lookup b with
  | none=>exact ⟨hb,rfl⟩
  | some o=>
   rw [hk,if_neg (by simp)] at q
   cases q
 ·rw [if_neg hb] at q;cases q
theorem zp8 (ar:∀ a∈A,ArgOb h A a){b:Addr}{u:HO}(q:argH K h A b=some u):K.lookup b=none∧∃ vs:List Value,vs.length≤sizeLine∧(∀ u∈vs,OkU A u)∧
  ((h.get? b=some {cls:=.type "list",data:=.seq vs.toArray}∧u=.frz {cls:=.type "list",data:=.seq vs.toArray} (.lst (vs.map toV))) ∨
  (h.get? b=some {cls:=.type "tuple",data:=.seq vs.toArray}∧u=.frz {cls:=.type "tuple",data:=.seq vs.toArray} (.tup (vs.map toV)))):=by
 obtain ⟨hb,hk⟩:=of_argH q;obtain ⟨vs,h1,h2,h3⟩:=ar b hb;refine ⟨hk,vs,h1,h2,?_⟩;rcases h3 with e | e
 ·rw [zp9 hb hk e,zvb] at q;exact .inl ⟨e,(Option.some.inj q).symm⟩
 ·rw [zp9 hb hk e,zva] at q;exact .inr ⟨e,(Option.some.inj q).symm⟩
theorem argH_only (ar:∀ a∈A,ArgOb h A a):OnlyF (argH K h A):=fun b=>by
 cases q:argH K h A b with
 | none=>exact .inl rfl
 | some u=>
  obtain ⟨_,vs,_,_,⟨_,e⟩ | ⟨_,e⟩⟩:=zp8 ar q
  ·exact .inr ⟨_,_,by rw [e]⟩
  ·exact .inr ⟨_,_,by rw [e]⟩
theorem argH_ok (ar:∀ a∈A,ArgOb h A a):HOk P w (argH K h A) h:=fun b u q=>by
 obtain ⟨_,vs,h1,h2,⟨e,rfl⟩ | ⟨e,rfl⟩⟩:=zp8 ar q
 ·exact ⟨e,by rw [List.length_map];exact h1,vs,_,zhi h2,e⟩
 ·exact ⟨e,by rw [List.length_map];exact h1,vs,zhi h2,_,e,rfl,_,rfl⟩
theorem zom {c c':Value}{vs us:List Value}(e:(some {cls:=c,data:=.seq vs.toArray}:Option Obj)=some {cls:=c',data:=.seq us.toArray}):c=c'∧vs=us:=by
 have e1:=Option.some.inj e;have e2:c=c':=congrArg Obj.cls e1;have e3:Data.seq vs.toArray=Data.seq us.toArray:=congrArg Obj.data e1;injection e3 with e4;refine ⟨e2,?_⟩;have e5:=congrArg Array.toList e4;simpa using e5
theorem argL (KX:K.In h)(ar:∀ a∈A,ArgOb h A a){a:Addr}{vs:List Value}(ha:a∈A)(e:h.get? a=some {cls:=.type "list",data:=.seq vs.toArray}):(∀ u∈vs,OkU A u)∧SqL K (argH K h A) a (vs.map toV):=by
 obtain ⟨us,h1,h2,h3⟩:=ar a ha;have hu:us=vs:=by
  rcases h3 with q | q
  ·rw [e] at q;exact (zom q).2.symm
  ·rw [e] at q;exact absurd (Value.type.inj (zom q).1) (by decide)
 subst hu;refine ⟨h2,?_⟩;cases hk:K.lookup a with
 | none=>exact .inl (.inr ⟨_,by rw [zp9 ha hk e,zvb]⟩)
 | some o=>
  have e2:=KX a o hk;rw [e] at e2;obtain rfl:=Option.some.inj e2;exact .inr ⟨_,us.toArray,_,hk,rfl,rfl,rfl,by rw [List.size_toArray];exact h1,by simpa using zhi h2⟩
theorem argT (KX:K.In h)(ar:∀ a∈A,ArgOb h A a){a:Addr}{vs:List Value}(ha:a∈A)(e:h.get? a=some {cls:=.type "tuple",data:=.seq vs.toArray}):(∀ u∈vs,OkU A u)∧SqT K (argH K h A) a (vs.map toV):=by
 obtain ⟨us,h1,h2,h3⟩:=ar a ha;have hu:us=vs:=by
  rcases h3 with q | q
  ·rw [e] at q;exact absurd (Value.type.inj (zom q).1) (by decide)
  ·rw [e] at q;exact (zom q).2.symm
 subst hu;refine ⟨h2,?_⟩;cases hk:K.lookup a with
 | none=>exact .inl (.inr ⟨_,by rw [zp9 ha hk e,zva]⟩)
 | some o=>
  have e2:=KX a o hk;rw [e] at e2;obtain rfl:=Option.some.inj e2;exact .inr ⟨_,us.toArray,_,hk,rfl,rfl,by rw [List.size_toArray];exact h1,by simpa using zhi h2⟩
mutual
theorem dw_one {Pm:Params}(KX:K.In h)(ar:∀ a∈A,ArgOb h A a):∀ (d:WData) (v:Value),Well Pm h v d→plW d=true→OkU A v→Dw K (argH K h A) (toV v) d
 | .none,_,x,_,_=>by
  cases x;exact .non
 | .bool b,_,x,_,_=>by
  cases x;exact .bl b
 | .int i,_,x,_,_=>by
  cases x;exact .int i
 | .str s,_,x,_,_=>by
  cases x;exact .str s
 | .bytes b,_,x,_,_=>by
  cases x;have z:=Dw.byt (K:=K) (H:=argH K h A) b.toArray;exact z
 | .list ds,_,x,p,hu=>by
  obtain ⟨a,vs,rfl,ho,hall⟩:=zqc x;obtain ⟨h2,hs⟩:=argL KX ar hu ho;exact .lst hs (zve KX ar ds _ hall p h2)
 | .tuple ds,_,x,p,hu=>by
  obtain ⟨a,vs,rfl,ho,hall⟩:=znd x;obtain ⟨h2,hs⟩:=argT KX ar hu ho;exact .tup hs (zve KX ar ds _ hall p h2)
 | .float _,_,_,p,_=>Bool.noConfusion (show false=true from p)
 | .dict _,_,_,p,_=>Bool.noConfusion (show false=true from p)
 | .bytearray _,_,_,p,_=>Bool.noConfusion (show false=true from p)
 | .set _,_,_,p,_=>Bool.noConfusion (show false=true from p)
 | .frozenset _,_,_,p,_=>Bool.noConfusion (show false=true from p)
 | .obj _ _,_,_,p,_=>Bool.noConfusion (show false=true from p)
theorem zve {Pm:Params}(KX:K.In h)(ar:∀ a∈A,ArgOb h A a):∀ (ds:List WData) (vs:List Value),WellAll Pm h vs ds→plWs ds=true→(∀ u∈vs,OkU A u)→DwAll K (argH K h A) (vs.map toV) ds
 | [],_,x,_,_=>by
  cases x;exact .nil
 | d::ds,_,x,p,hu=>by
  obtain ⟨v,vs,rfl,x1,x2⟩:=zqd x;have q:plW d=true∧plWs ds=true:=Bool.and_eq_true_iff.mp p;exact .cons (dw_one KX ar d v x1 q.1 (hu _ (List.mem_cons_self ..))) (zve KX ar ds vs x2 q.2 fun u m=>hu u (List.mem_cons_of_mem _ m))
end
end
theorem zxt {P:Program}{w:World}{K:PySem.W.Frag}{mg mb:Str→Option Value}{CX:CXT}{k:Nat}{fa:Addr}{fd:FuncData}{ps:List Str}{sp:Sp}{s₁:Shared}{vals:List Value}{ds:List WData}{R:PySem.W.WRecords}{cl:Str→Option Addr}{d0:WData}(KX:K.In s₁.heap)(hns:s₁.heap.Ns mainGlobals mg)(hb:s₁.heap.Ns builtinsNs mb)(hbb:∀ x:Str,x≠"__name__"→mb x=bootBuiltins x)(hlim:s₁.heap.NoLimit)(hg:s₁.gens=#[])(hwl:WellAll w.params s₁.heap vals ds)(hpl:plWs ds=true)(hwt:∀ d∈ds,d.weight≤1048576)(hr:Room k callerA)(F:∀ base:Heap,K.In base→base.Ns mainGlobals mg→FnOk P w K mg base CX k fa fd ps sp)(hbind:∀ (s:Shared) (us:List Value),us.length=ps.length→BindsTo s fd ⟨us,[]⟩ (ps.zip us))(hlen:ds.length=ps.length)(hsp:∀ (H:Hp) (xs:List V),OnlyF H→DwAll K H xs ds→sp xs H (fun v H'=>Dw K H' v d0) fun _ _ _=>False)(hCX:∀ H e s',CX [] H s₁ (fun _ _ _=>False) e s'→False):
  codeAny (model P w) callerA (.call (.ref fa) ⟨vals,[]⟩) (fun r s'=>∃ u as,r=.ok (.ret u)∧ReadsW R cl s'.heap u d0 as∧OldK s₁.heap s'.heap∧s'.os=s₁.os∧AllBare s'.gens) s₁:=by
 obtain ⟨A,ho,ar⟩:=zk9 ds vals hwl hpl hwt;have hO:OnlyF (argH K s₁.heap A):=argH_only ar;have hok:HOk P w (argH K s₁.heap A) s₁.heap:=argH_ok ar;have hS:=zve KX ar ds vals hwl hpl ho;have hV:=zhi ho;have hK:∀ b u,argH K s₁.heap A b=some u→K.lookup b=none:=fun b u q=>(zp8 ar q).1;have noA:∀ {b:Addr} {o:Obj} {es:Array DictEntry} {ep:Nat},s₁.heap.get? b=some o→o.data=.dict es ep→argH K s₁.heap A b=none:=fun {b o es ep} e d=>by
  cases q:argH K s₁.heap A b with
  | none=>rfl
  | some u=>
   obtain ⟨_,vs,_,_,⟨e2,_⟩ | ⟨e2,_⟩⟩:=zp8 ar q
   ·rw [e2] at e;cases e;have d':Data.seq vs.toArray _=Data.dict es ep:=d;cases d'
   ·rw [e2] at e;cases e;have d':Data.seq vs.toArray _=Data.dict es ep:=d;cases d'
 generalize argH K s₁.heap A=H at hO hok hS hK noA
 have base_of:∀ {b:Addr} {o:Obj},s₁.heap.get? b=some o→H b=none→(hidT s₁.heap H).get? b=some o:=fun e n=>hidT_get e n;have nsK:∀ {b:Addr} {m:Str→Option Value},s₁.heap.Ns b m→(hidT s₁.heap H).Ns b m:=fun {b m} ⟨o,es,ep,e,d,r⟩=>⟨o,es,ep,base_of e (noA e d),d,r⟩;have nK:∀ b o,K.lookup b=some o→H b=none:=fun b o e=>by
  cases q:H b with
  | none=>rfl
  | some u=>
   rw [hK b u q] at e;cases e
 have hKb:K.In (hidT s₁.heap H):=fun b o e=>base_of (KX b o e) (nK b o e);have hM:Mod K mg (hidT s₁.heap H):=⟨hKb,nsK hns,⟨mb,nsK hb,hbb⟩,let ⟨mc,h1,h2⟩:=hlim;⟨mc,nsK h1,h2⟩⟩
 have e0:Env0 P w K mg (hidT s₁.heap H) callerA [] s₁ H:=⟨rfl,hM,fun b o e=>of_hidT e,Nat.le_of_eq (hidT_size _ _),trivial,fun b hb=>absurd (show b∈([]:List Addr) from hb) (by simp),hok,.of_eq hg⟩
 have hl:vals.length=ps.length:=by rw [zfm hwl];exact hlen
 refine codeAny_mono ((F _ hKb (nsK hns)).run callerA [] s₁ H ⟨vals,[]⟩ vals (vals.map toV) _ _ hr e0 (hbind s₁ vals hl) hV (hsp H _ hO hS)) fun r s' x=>?_;cases r with
 | error e=>exact (hCX H e s' x).elim
 | ok fl=>
  cases fl with
  | next=>exact False.elim x
  | brk=>exact False.elim x
  | cont=>exact False.elim x
  | ret u=>
   obtain ⟨v,H',os,bare,un,hok',r',q⟩:=x;have kept:∀ b o,s₁.heap.get? b=some o→s'.heap.get? b=some o:=fun b o e=>by
    cases q2:H b with
    | none=>exact un.keep b o e q2 (by intro z;exact absurd (show b∈([]:List Addr) from z) (by simp)) (by simp)
    | some u2=>
     rcases hO b with z | ⟨ob,u3,z⟩
     ·rw [q2] at z;cases z
     ·have z2:=un.frzs b ob _ z;obtain ⟨e1,_⟩:=hok b _ z;obtain ⟨e2,_⟩:=hok' b _ z2;rw [e] at e1;cases e1;exact e2
   have KX':K.In s'.heap:=fun b o e=>kept b o (KX b o e);obtain ⟨as,hrd⟩:=Dw.reads (R:=R) (cl:=cl) hok' KX' d0 v u q r';exact ⟨u,as,rfl,hrd,OldK.of_keep kept,os,bare⟩
theorem zm2 {ds:List WData}(h:WData.layableAll ds=true):∀ d∈ds,d.weight≤1048576:=fun d hd=>
 (PySem.W.layableW_iff.mp (List.all_eq_true.mp h d hd)).2.2
theorem znw:∀ (cs:List Codec) (a:Codec.denoteAll cs),(Codec.encAll cs a).length=cs.length
 | [],_=>rfl
 | c::cs,a=>by
  show (Codec.encAll cs a.2).length+1=cs.length+1;rw [znw cs a.2]
theorem zxf {r:OpenSpec}{k:Nat}{q:Program}{loose:List Str}{XP:(Str→Option Value)→Heap→Prop}{YP:World→Heap→Prop}{d:DefRec}{K:Params→PySem.W.Frag}{CX:World→CXT}{ps:List Str}{sp:World→Sp}(hwell:r.wellSaid=true)(hdf:d.params.defaults=[])(hlen:r.args.length=ps.length)(hr:Room k callerA)(hY:∀ (w:World) (h:Heap),YP w h→(K w.params).In h)(F:∀ (w:World) (mg:Str→Option Value) (fa:Addr) (h:Heap),YP w h→(K w.params).In h→h.Ns mainGlobals mg→mg d.name=some (.ref fa)→
   ∃ fd:FuncData,(∀ (s:Shared) (us:List Value),us.length=ps.length→BindsTo s fd ⟨us,[]⟩ (ps.zip us))∧
    ∀ base:Heap,(K w.params).In base→base.Ns mainGlobals mg→FnOk r.prog w (K w.params) mg base (CX w) k fa fd ps (sp w))(hsp:∀ (w:World) (H:Hp) (xs:List V) (a:Codec.denoteAll r.args),OnlyF H→Codec.withinAll r.args a=true→Codec.app r.args r.asked a=true→DwAll (K w.params) H xs (Codec.encAll r.args a)→
   sp w xs H (fun v H'=>Dw (K w.params) H' v (r.ret.enc (Codec.app r.args r.f a))) fun _ _ _=>False)(hCX:∀ (w:World) (H:Hp) (s:Shared) (e:Value) (s':Shared),CX w [] H s (fun _ _ _=>False) e s'→False):
  PySem.W.WalkOS q loose XP YP r d [] (fun f vs=>PySem.call f vs):=by
 intro w s_0 s₁ mg mb G Y fa o pm cd doc dV kV ho hd hcd hD hmg hg args vals as hpre hlay hrd hwl hlo;obtain ⟨a,e1,e2⟩:=PySem.W.os_pre_some hpre;obtain ⟨e3,hwi⟩:=Codec.encAll_of_decAll r.args args a e1;subst e3;have KX:=hY w _ Y;obtain ⟨fd,hb,hF⟩:=F w mg fa _ Y KX G.T.g hmg;refine PySem.W.enter_call (codeAny_mono (zxt (R:=[]) (cl:=classAt s_0.heap) (d0:=r.ret.enc (Codec.app r.args r.f a)) KX G.T.g G.T.b G.T.builtins G.T.nolimit hg hwl (zq8 _ _) (zm2 hlay) hr hF hb (by rw [znw];exact hlen)
  (fun H xs hO hS=>hsp w H xs a hO hwi e2 hS) fun H e s'=>hCX w H s₁ e s') fun r' s' hq=>?_)
 obtain ⟨u,as',rfl,h1,h2,h3,h4⟩:=hq;exact ⟨.inl ⟨u,_,as',rfl,fun _=>rfl,h1,(OpenSpec.post_iff hwell hwi _ _).mpr rfl,fun z=>Bool.noConfusion (show false=true from z)⟩,h2,h3,h4⟩
theorem zvp {r:OpenSpec}{k:Nat}{q:Program}{loose:List Str}{XP:(Str→Option Value)→Heap→Prop}{YP:World→Heap→Prop}{d:DefRec}{K:Params→PySem.W.Frag}{CX:CXT}{ps:List Str}{sp:PySem.W.Frag→Sp}(hwell:r.wellSaid=true)(hdf:d.params.defaults=[])(hlen:r.args.length=ps.length)(hr:Room k callerA)(hY:∀ (w:World) (h:Heap),YP w h→(K w.params).In h)(F:∀ (w:World) (mg:Str→Option Value) (fa:Addr) (h:Heap),YP w h→(K w.params).In h→h.Ns mainGlobals mg→mg d.name=some (.ref fa)→
   ∃ fd:FuncData,(∀ (s:Shared) (us:List Value),us.length=ps.length→BindsTo s fd ⟨us,[]⟩ (ps.zip us))∧
    ∀ base:Heap,(K w.params).In base→base.Ns mainGlobals mg→FnOk r.prog w (K w.params) mg base CX k fa fd ps (sp (K w.params)))(hsp:∀ (K:PySem.W.Frag) (H:Hp) (xs:List V) (a:Codec.denoteAll r.args),OnlyF H→Codec.withinAll r.args a=true→Codec.app r.args r.asked a=true→DwAll K H xs (Codec.encAll r.args a)→
   sp K xs H (fun v H'=>Dw K H' v (r.ret.enc (Codec.app r.args r.f a))) fun _ _ _=>False)(hCX:∀ (H:Hp) (s:Shared) (e:Value) (s':Shared),CX [] H s (fun _ _ _=>False) e s'→False):
  PySem.W.WalkOS q loose XP YP r d [] (fun f vs=>PySem.call f vs):=
 zxf (K:=K) (CX:=fun _=>CX) (sp:=fun w=>sp (K w.params)) hwell hdf hlen hr hY F (fun w H xs a h1 h2 h3 h4=>hsp (K w.params) H xs a h1 h2 h3 h4) fun _ H s e s'=>hCX H s e s'
end L2
end
end
namespace HC
section
open RgCase
theorem zcw (x:UInt8):∀ b:Bytes,cutAt x b≠[]
 | []=>by simp [cutAt]
 | c::r=>by
  unfold cutAt;split
  ·simp
  ·split <;> simp
theorem zaz (x:UInt8)(r:Bytes):cutAt x (x::r)=[]::cutAt x r:=by
 rw [cutAt,if_pos rfl]
theorem zay {x c:UInt8}(h:c≠x)(r:Bytes):∃ l m,cutAt x r=l::m∧cutAt x (c::r)=(c::l)::m:=by
 cases e:cutAt x r with
 | nil=>exact absurd e (zcw x r)
 | cons l m=>
  refine ⟨l,m,rfl,?_⟩;rw [cutAt,if_neg h,e]
theorem zfn (w:Bytes){r:List Bytes}(h:r≠[]):spaced (w::r)=w++(32::spaced r):=by
 cases r with
 | nil=>exact absurd rfl h
 | cons a t=>rfl
theorem zjb:∀ b:Bytes,spaced (cutAt 32 b)=b
 | []=>rfl
 | c::r=>by
  by_cases h:c=32
  ·subst h;rw [zaz,zfn _ (zcw 32 r),zjb r];rfl
  ·obtain ⟨l,m,e1,e2⟩:=zay h r;have ih:=zjb r;rw [e1] at ih;rw [e2];cases m with
   | nil=>
    have:l=r:=ih;rw [this];rfl
   | cons a t=>
    rw [zfn _ (by simp)] at ih
    rw [zfn _ (by simp),List.cons_append,ih]
theorem zny {x:UInt8}:∀ {w:Bytes} (r:Bytes),x∉w→cutAt x (w++(x::r))=w::cutAt x r
 | [],r,_=>zaz x r
 | c::w,r,h=>by
  have h1:c≠x:=fun e=>h (e▸List.mem_cons_self);have h2:x∉w:=fun e=>h (List.mem_cons_of_mem _ e);obtain ⟨l,m,e1,e2⟩:=zay h1 (w++(x::r));rw [List.cons_append,e2];rw [zny r h2] at e1;cases e1;rfl
theorem zvg {x:UInt8}:∀ {w:Bytes},x∉w→cutAt x w=[w]
 | [],_=>rfl
 | c::w,h=>by
  have h1:c≠x:=fun e=>h (e▸List.mem_cons_self);have h2:x∉w:=fun e=>h (List.mem_cons_of_mem _ e);obtain ⟨l,m,e1,e2⟩:=zay h1 w;rw [e2];rw [zvg h2] at e1;cases e1;rfl
theorem znx:∀ {ws:List Bytes},ws≠[]→(∀ w∈ws,(32:UInt8)∉w)→cutAt 32 (spaced ws)=ws
 | [],h,_=>absurd rfl h
 | [w],_,h=>zvg (h w List.mem_cons_self)
 | w::a::r,_,h=>by
  rw [zfn _ (by simp),zny _ (h w List.mem_cons_self),znx (by simp) fun v hv=>h v (List.mem_cons_of_mem _ hv)]
theorem cut_no {x:UInt8}:∀ (b:Bytes),∀ w∈cutAt x b,x∉w
 | [],w,h=>by
  have:w=[]:=by simpa [cutAt] using h
  subst this;simp
 | c::r,w,h=>by
  by_cases e:c=x
  ·subst e;rw [zaz] at h;rcases List.mem_cons.mp h with rfl | h
   ·simp
   ·exact cut_no r w h
  ·obtain ⟨l,m,e1,e2⟩:=zay e r;rw [e2] at h;have ih:=cut_no (x:=x) r;rw [e1] at ih;rcases List.mem_cons.mp h with rfl | h
   ·intro z;rcases List.mem_cons.mp z with z | z
    ·exact e z.symm
    ·exact ih l List.mem_cons_self z
   ·exact ih w (List.mem_cons_of_mem _ h)
def nameSign (c:UInt8):Bool:=(decide (97≤c)&&decide (c≤122))||(decide (48≤c)&&decide (c≤57))
theorem znr {b:Name}:nameOk b=true↔1≤b.length∧b.length≤12∧∀ c∈b,nameSign c=true:=by
 unfold nameOk;rw [Bool.and_eq_true,Bool.and_eq_true,decide_eq_true_iff,decide_eq_true_iff,List.all_eq_true];exact Iff.rfl
theorem zw4 {b:Name}(h:claimName b=true):nameOk b=true:=(Bool.and_eq_true_iff.mp h).1
def wordOk (b:Bytes):Prop:=∀ c∈b,nameSign c=true
theorem wordOk.no {b:Bytes}(h:wordOk b){x:UInt8}(hx:nameSign x=false):x∉b:=fun m=>by
 rw [h x m] at hx;cases hx
theorem zg8 {b:Name}(h:nameOk b=true):wordOk b:=(znr.mp h).2.2
theorem zfl {b:Name}(h:claimName b=true):wordOk b:=zg8 (zw4 h)
theorem zj9:∀ n:Nat,n≤99→wordOk (decimal n):=by
 have h:∀ n:Fin 100,(decimal n.1).all nameSign=true:=by decide +kernel
 intro n hn c hc;exact List.all_eq_true.mp (h ⟨n,by omega⟩) c hc
theorem zdo {s:String}(h:(ascii s).all nameSign=true):wordOk (ascii s):=fun c hc=>List.all_eq_true.mp h c hc
theorem zw2 {c:Cond}(h:c.ok=true):∀ w∈c.words,wordOk w:=by
 have h1:claimName c.claim=true:=(Bool.and_eq_true_iff.mp h).1;intro w hw;unfold Cond.words at hw;rcases List.mem_append.mp hw with hw | hw
 ·split at hw
  ·rcases List.mem_singleton.mp hw with rfl;exact zdo (by decide +kernel)
  ·split at hw
   ·rcases List.mem_singleton.mp hw with rfl;exact zdo (by decide +kernel)
   ·cases hw
 ·rcases List.mem_singleton.mp hw with rfl;exact zfl h1
theorem zh9 {l:List Cond}(h:l.all Cond.ok=true):∀ w∈condWords l,wordOk w:=by
 intro w hw;unfold condWords at hw;rcases List.mem_cons.mp hw with rfl | hw
 ·exact zdo (by decide +kernel)
 ·obtain ⟨c,hc,hw⟩:=List.mem_flatMap.mp hw;exact zw2 (List.all_eq_true.mp h c hc) w hw
theorem zf9 {l:List Cond}(h:condsOk l=true):l.all Cond.ok=true:=(Bool.and_eq_true_iff.mp (Bool.and_eq_true_iff.mp h).2).2
theorem zjm {x:Line}(h:x.ok=true):∀ w∈x.words,wordOk w:=by
 intro w hw;cases x with
 | claim n=>
  simp only [Line.words,List.mem_cons,List.not_mem_nil,or_false] at hw;rcases hw with rfl | rfl
  ·exact zdo (by decide +kernel)
  ·exact zfl h
 | weight a n=>
  simp only [Line.ok,Bool.and_eq_true,decide_eq_true_eq] at h;simp only [Line.words,List.mem_cons,List.not_mem_nil,or_false] at hw;rcases hw with rfl | rfl | rfl
  ·exact zdo (by decide +kernel)
  ·exact zg8 h.1
  ·exact zj9 n (by omega)
 | word s a c=>
  simp only [Line.ok,Bool.and_eq_true] at h;simp only [Line.words,List.mem_cons,List.not_mem_nil,or_false] at hw;rcases hw with rfl | rfl | rfl
  ·cases s <;> exact zdo (by decide +kernel)
  ·exact zg8 h.1
  ·exact zfl h.2
 | seen s c=>
  simp only [Line.words,List.mem_cons,List.not_mem_nil,or_false] at hw;rcases hw with rfl | rfl
  ·cases s <;> exact zdo (by decide +kernel)
  ·exact zfl h
 | rule f c l=>
  simp only [Line.ok,Bool.and_eq_true] at h;simp only [Line.words,List.mem_cons,List.cons_append,List.nil_append] at hw;rcases hw with rfl | rfl | hw
  ·cases f <;> exact zdo (by decide +kernel)
  ·exact zfl h.1
  ·exact zh9 (zf9 h.2) w hw
 | penalty b n l=>
  simp only [Line.ok,Bool.and_eq_true,decide_eq_true_eq] at h;simp only [Line.words,List.mem_cons,List.cons_append,List.nil_append] at hw;rcases hw with rfl | rfl | rfl | hw
  ·exact zdo (by decide +kernel)
  ·exact zg8 h.1
  ·exact zj9 n (by omega)
  ·exact zh9 (zf9 h.2.2.2) w hw
 | redress b l=>
  simp only [Line.ok,Bool.and_eq_true] at h;simp only [Line.words,List.mem_cons,List.cons_append,List.nil_append] at hw;rcases hw with rfl | rfl | hw
  ·exact zdo (by decide +kernel)
  ·exact zg8 h.1
  ·exact zh9 (zf9 h.2) w hw
theorem words_ne (x:Line):x.words≠[]:=by cases x <;> simp [Line.words]
theorem zog {x:Line}(h:x.ok=true)(b:Bytes):x.text=b↔x.words=cutAt 32 b:=by
 have e:cutAt 32 x.text=x.words:=znx (words_ne x) fun w hw=>(zjm h w hw).no (by decide)
 constructor
 ·intro q;rw [←q,e]
 ·intro q;show spaced x.words=b;rw [q,zjb]
end
section
open RgCase
def digit (c:UInt8):Bool:=decide (48≤c)&&decide (c≤57)
def numP (most:Nat)(w:Bytes):Nat:=
 if w.length≤(if most<10 then 1 else 2)∧(w≠[]∧w.all digit=true)∧w.head?≠some 48 then (if natIn w≤most then natIn w else 0) else 0
def condsP:List Bytes→Option (List Cond)
 | []=>some []
 | [a]=>if claimName a=true then some [⟨a,1⟩] else none
 | a::b::r=>
  if a=ascii "not" then (if claimName b=true then (condsP r).map (⟨b,2⟩::·) else none)
  else if a=ascii "open" then (if claimName b=true then (condsP r).map (⟨b,3⟩::·) else none)
  else if claimName a=true then (condsP (b::r)).map (⟨a,1⟩::·) else none
def condsL (ws:List Bytes):List Cond:=match condsP ws with
 | some l=>if l.length≤8 then l else []
 | none=>[]
def lineOf:List Bytes→Option Line
 | []=>none
 | w::r=>
  if w=ascii "claim" then (match r with | [n]=>if claimName n=true then some (.claim n) else none | _=>none)
  else if w=ascii "weight" then (match r with | [a,n]=>if nameOk a=true∧numP 9 n≠0 then some (.weight a (numP 9 n)) else none | _=>none)
  else if w=ascii "says" then (match r with | [a,n]=>if nameOk a=true∧claimName n=true then some (.word true a n) else none | _=>none)
  else if w=ascii "denies" then (match r with | [a,n]=>if nameOk a=true∧claimName n=true then some (.word false a n) else none | _=>none)
  else if w=ascii "seen" then (match r with | [n]=>if claimName n=true then some (.seen true n) else none | _=>none)
  else if w=ascii "unseen" then (match r with | [n]=>if claimName n=true then some (.seen false n) else none | _=>none)
  else if w=ascii "for" then (match r with | a::i::s=>if claimName a=true∧i=ascii "if"∧condsL s≠[] then some (.rule true a (condsL s)) else none | _=>none)
  else if w=ascii "against" then (match r with | a::i::s=>if claimName a=true∧i=ascii "if"∧condsL s≠[] then some (.rule false a (condsL s)) else none | _=>none)
  else if w=ascii "penalty" then (match r with | a::n::i::s=>if nameOk a=true∧numP 99 n≠0∧i=ascii "if"∧condsL s≠[] then some (.penalty a (numP 99 n) (condsL s)) else none | _=>none)
  else if w=ascii "redress" then (match r with | a::i::s=>if nameOk a=true∧i=ascii "if"∧condsL s≠[] then some (.redress a (condsL s)) else none | _=>none)
  else none
theorem zu4:∀ n:Nat,1≤n→n≤9→numP 9 (decimal n)=n∧natIn (decimal n)=n:=by
 have h:∀ n:Fin 10,1≤n.1→numP 9 (decimal n.1)=n.1∧natIn (decimal n.1)=n.1:=by decide +kernel
 intro n h1 h2;exact h ⟨n,by omega⟩ h1
theorem zrp:∀ n:Nat,1≤n→n≤99→numP 99 (decimal n)=n∧natIn (decimal n)=n:=by
 have h:∀ n:Fin 100,1≤n.1→numP 99 (decimal n.1)=n.1∧natIn (decimal n.1)=n.1:=by decide +kernel
 intro n h1 h2;exact h ⟨n,by omega⟩ h1
theorem zhq {c:UInt8}(h:digit c=true):∃ k:Fin 10,c=UInt8.ofNat (48+k.1):=by
 unfold digit at h;rw [Bool.and_eq_true,decide_eq_true_eq,decide_eq_true_eq,UInt8.le_iff_toNat_le,UInt8.le_iff_toNat_le] at h;have h1:48≤c.toNat:=h.1;have h2:c.toNat≤57:=h.2;refine ⟨⟨c.toNat - 48,by omega⟩,?_⟩
 have:48+(c.toNat - 48)=c.toNat:=by omega
 simp only [this];exact (UInt8.ofNat_toNat).symm
theorem zu5 {most:Nat}(hm:most≤99){w:Bytes}(h:numP most w≠0):1≤numP most w∧numP most w≤most∧decimal (numP most w)=w:=by
 unfold numP at h ⊢;by_cases hc:w.length≤(if most<10 then 1 else 2)∧(w≠[]∧w.all digit=true)∧w.head?≠some 48
 ·rw [if_pos hc] at h ⊢;obtain ⟨hl,⟨hn,hd⟩,h0⟩:=hc;by_cases hq:natIn w≤most
  ·rw [if_pos hq] at h ⊢;refine ⟨by omega,hq,?_⟩
   match w,hn,hd,h0,hl with
   | [],hn,_,_,_=>exact absurd rfl hn
   | [c],_,hd,h0,_=>
    simp only [List.all_cons,List.all_nil,Bool.and_true] at hd;obtain ⟨k,rfl⟩:=zhq hd;have key:∀ k:Fin 10,([UInt8.ofNat (48+k.1)]:Bytes).head?≠some 48→decimal (natIn [UInt8.ofNat (48+k.1)])=[UInt8.ofNat (48+k.1)]:=by decide +kernel
    exact key k h0
   | [c,d],_,hd,h0,_=>
    simp only [List.all_cons,List.all_nil,Bool.and_true,Bool.and_eq_true] at hd;obtain ⟨k,rfl⟩:=zhq hd.1;obtain ⟨j,rfl⟩:=zhq hd.2;have key:∀ k j:Fin 10,([UInt8.ofNat (48+k.1),UInt8.ofNat (48+j.1)]:Bytes).head?≠some 48→decimal (natIn [UInt8.ofNat (48+k.1),UInt8.ofNat (48+j.1)])=[UInt8.ofNat (48+k.1),UInt8.ofNat (48+j.1)]:=by decide +kernel
    exact key k j h0
   | a::b::c::r,_,_,_,hl=>
    simp only [List.length_cons] at hl;split at hl <;> omega
  ·rw [if_neg hq] at h;exact absurd rfl h
 ·rw [if_neg hc] at h;exact absurd rfl h
theorem claim_not {a:Bytes}(h:claimName a=true):a≠ascii "not"∧a≠ascii "open"∧a≠ascii "if":=by
 unfold claimName at h;rw [Bool.and_eq_true,Bool.not_eq_true',List.contains_eq_any_beq,List.any_eq_false] at h;have h2:=h.2;simp only [List.map_cons,List.map_nil,List.mem_cons,List.not_mem_nil,or_false,beq_iff_eq] at h2;exact ⟨fun e=>h2 _ (.inl rfl) e,fun e=>h2 _ (.inr (.inl rfl)) e,fun e=>h2 _ (.inr (.inr rfl)) e⟩
theorem not_claim {s:Bytes}(h:s=ascii "not"∨s=ascii "open"∨s=ascii "if"):claimName s=false:=by
 rcases h with rfl | rfl | rfl <;> decide +kernel
theorem cond_val {c:Cond}(h:c.ok=true):claimName c.claim=true∧(c.value=1∨c.value=2∨c.value=3):=by
 unfold Cond.ok at h;rw [Bool.and_eq_true,Bool.and_eq_true,decide_eq_true_eq,decide_eq_true_eq] at h;exact ⟨h.1,(fun (v:Nat) (h1:1≤v) (h2:v≤3)=>(by omega:v=1∨v=2∨v=3)) c.value h.2.1 h.2.2⟩
theorem zf5:ascii "not"≠ascii "open":=by decide +kernel
theorem zhb:∀ {l:List Cond},l.all Cond.ok=true→condsP (l.flatMap Cond.words)=some l∧condsIn (l.flatMap Cond.words)=l
 | [],_=>⟨rfl,rfl⟩
 | ⟨n,v⟩::l,h=>by
  rw [List.all_cons,Bool.and_eq_true] at h;obtain ⟨hn,hv⟩:=cond_val h.1;obtain ⟨e1,e2,_⟩:=claim_not (show claimName n=true from hn)
  have ih:=zhb h.2;have hn':claimName n=true:=hn;rcases (show v=1∨v=2∨v=3 from hv) with rfl | rfl | rfl
  ·show condsP (n::l.flatMap Cond.words)=_∧condsIn (n::l.flatMap Cond.words)=_;cases q:l.flatMap Cond.words with
   | nil=>
    rw [q] at ih;have:l=[]:=by simpa [condsIn] using ih.2.symm
    subst this;exact ⟨by rw [condsP,if_pos hn'],rfl⟩
   | cons b r=>
    rw [q] at ih;refine ⟨?_,?_⟩
    ·rw [condsP,if_neg e1,if_neg e2,if_pos hn',ih.1];rfl
    ·rw [condsIn,if_neg e1,if_neg e2,ih.2]
  ·show condsP (ascii "not"::n::l.flatMap Cond.words)=_∧condsIn (ascii "not"::n::l.flatMap Cond.words)=_;refine ⟨?_,?_⟩
   ·rw [condsP,if_pos rfl,if_pos hn',ih.1];rfl
   ·rw [condsIn,if_pos rfl,ih.2]
  ·show condsP (ascii "open"::n::l.flatMap Cond.words)=_∧condsIn (ascii "open"::n::l.flatMap Cond.words)=_;refine ⟨?_,?_⟩
   ·rw [condsP,if_neg (Ne.symm zf5),if_pos rfl,if_pos hn',ih.1];rfl
   ·rw [condsIn,if_neg (Ne.symm zf5),if_pos rfl,ih.2]
theorem zix {α β:Type}{f:α→β}{o:Option α}{y:β}(h:o.map f=some y):∃ x,o=some x∧f x=y:=by
 cases o with
 | none=>cases h
 | some x=>exact ⟨x,rfl,Option.some.inj h⟩
theorem zey:∀ {ws:List Bytes} {l:List Cond},condsP ws=some l→l.all Cond.ok=true∧l.flatMap Cond.words=ws
 | [],l,h=>by
  cases h;exact ⟨rfl,rfl⟩
 | [a],l,h=>by
  rw [condsP] at h;split at h
  ·rename_i q
   cases h;exact ⟨by simp [Cond.ok,q],rfl⟩
  ·cases h
 | a::b::r,l,h=>by
  rw [condsP] at h;split at h
  ·rename_i e
   subst e;split at h
   ·rename_i q
    obtain ⟨m,hm,rfl⟩:=zix h;obtain ⟨h1,h2⟩:=zey hm;refine ⟨by rw [List.all_cons,h1];simp [Cond.ok,q],?_⟩
    rw [List.flatMap_cons,h2];rfl
   ·cases h
  ·split at h
   ·rename_i e
    subst e;split at h
    ·rename_i q
     obtain ⟨m,hm,rfl⟩:=zix h;obtain ⟨h1,h2⟩:=zey hm;refine ⟨by rw [List.all_cons,h1];simp [Cond.ok,q],?_⟩
     rw [List.flatMap_cons,h2];rfl
    ·cases h
   ·split at h
    ·rename_i q
     obtain ⟨m,hm,rfl⟩:=zix h;obtain ⟨h1,h2⟩:=zey hm;refine ⟨by rw [List.all_cons,h1];simp [Cond.ok,q],?_⟩
     rw [List.flatMap_cons,h2];rfl
    ·cases h
theorem znz {ws:List Bytes}{l:List Cond}(hl:l≠[]):condsL ws=l↔condsOk l=true∧l.flatMap Cond.words=ws:=by
 unfold condsL condsOk;constructor
 ·intro h;split at h
  ·rename_i m hm
   split at h
   ·rename_i q
    subst h;obtain ⟨h1,h2⟩:=zey hm;refine ⟨?_,h2⟩;rw [h1];cases m with
    | nil=>exact absurd rfl hl
    | cons a r=>simp only [Bool.and_true,Bool.and_eq_true,decide_eq_true_eq];exact ⟨by simp,q⟩
   ·exact absurd h.symm hl
  ·exact absurd h.symm hl
 ·rintro ⟨h,e⟩;simp only [Bool.and_eq_true,decide_eq_true_eq] at h;rw [←e,(zhb h.2.2).1];show (if l.length≤8 then l else [])=l
  rw [if_pos h.2.1]
theorem zhs {l:List Cond}(h:condsOk l=true):l≠[]:=by
 intro e;subst e;cases h
theorem zi1 {ws:List Bytes}(h:condsL ws≠[]):condsOk (condsL ws)=true∧(condsL ws).flatMap Cond.words=ws:=(znz h).mp rfl
theorem zhc {l:List Cond}(h:condsOk l=true):condsL (l.flatMap Cond.words)=l:=(znz (zhs h)).mpr ⟨h,rfl⟩
theorem zga {l:List Cond}(h:condsOk l=true):condsIn (l.flatMap Cond.words)=l:=(zhb (zf9 h)).2
theorem zrs {x:Line}(h:x.ok=true):lineOf x.words=some x:=by
 cases x with
 | claim n=>
  have h':claimName n=true:=h;simp only [Line.words,lineOf,if_true,h']
 | weight a n=>
  simp only [Line.ok,Bool.and_eq_true,decide_eq_true_eq] at h;have q:=(zu4 n h.2.1 h.2.2).1;have d1:ascii "weight"≠ascii "claim":=by decide +kernel
  simp only [Line.words,lineOf,if_neg d1,if_true,q];rw [if_pos ⟨h.1,by omega⟩]
 | word s a c=>
  simp only [Line.ok,Bool.and_eq_true] at h;have d1:ascii "says"≠ascii "claim":=by decide +kernel
  have d2:ascii "says"≠ascii "weight":=by decide +kernel
  have d3:ascii "denies"≠ascii "claim":=by decide +kernel
  have d4:ascii "denies"≠ascii "weight":=by decide +kernel
  have d5:ascii "denies"≠ascii "says":=by decide +kernel
  cases s
  ·show lineOf [ascii "denies",a,c]=_;simp only [lineOf,if_neg d3,if_neg d4,if_neg d5,if_true,h.1,h.2,and_self]
  ·show lineOf [ascii "says",a,c]=_;simp only [lineOf,if_neg d1,if_neg d2,if_true,h.1,h.2,and_self]
 | seen s c=>
  have h':claimName c=true:=h;cases s
  ·show lineOf [ascii "unseen",c]=_;have d1:ascii "unseen"≠ascii "claim":=by decide +kernel
   have d2:ascii "unseen"≠ascii "weight":=by decide +kernel
   have d3:ascii "unseen"≠ascii "says":=by decide +kernel
   have d4:ascii "unseen"≠ascii "denies":=by decide +kernel
   have d5:ascii "unseen"≠ascii "seen":=by decide +kernel
   simp only [lineOf,if_neg d1,if_neg d2,if_neg d3,if_neg d4,if_neg d5,if_true,h']
  ·show lineOf [ascii "seen",c]=_;have d1:ascii "seen"≠ascii "claim":=by decide +kernel
   have d2:ascii "seen"≠ascii "weight":=by decide +kernel
   have d3:ascii "seen"≠ascii "says":=by decide +kernel
   have d4:ascii "seen"≠ascii "denies":=by decide +kernel
   simp only [lineOf,if_neg d1,if_neg d2,if_neg d3,if_neg d4,if_true,h']
 | rule f c l=>
  simp only [Line.ok,Bool.and_eq_true] at h;have e:=zhc h.2;have ne:=zhs h.2;cases f
  ·show lineOf (ascii "against"::c::ascii "if"::l.flatMap Cond.words)=_;have d1:ascii "against"≠ascii "claim":=by decide +kernel
   have d2:ascii "against"≠ascii "weight":=by decide +kernel
   have d3:ascii "against"≠ascii "says":=by decide +kernel
   have d4:ascii "against"≠ascii "denies":=by decide +kernel
   have d5:ascii "against"≠ascii "seen":=by decide +kernel
   have d6:ascii "against"≠ascii "unseen":=by decide +kernel
   have d7:ascii "against"≠ascii "for":=by decide +kernel
   simp only [lineOf,if_neg d1,if_neg d2,if_neg d3,if_neg d4,if_neg d5,if_neg d6,if_neg d7,if_true,e];rw [if_pos ⟨h.1,trivial,ne⟩]
  ·show lineOf (ascii "for"::c::ascii "if"::l.flatMap Cond.words)=_;have d1:ascii "for"≠ascii "claim":=by decide +kernel
   have d2:ascii "for"≠ascii "weight":=by decide +kernel
   have d3:ascii "for"≠ascii "says":=by decide +kernel
   have d4:ascii "for"≠ascii "denies":=by decide +kernel
   have d5:ascii "for"≠ascii "seen":=by decide +kernel
   have d6:ascii "for"≠ascii "unseen":=by decide +kernel
   simp only [lineOf,if_neg d1,if_neg d2,if_neg d3,if_neg d4,if_neg d5,if_neg d6,if_true,e];rw [if_pos ⟨h.1,trivial,ne⟩]
 | penalty b n l=>
  simp only [Line.ok,Bool.and_eq_true,decide_eq_true_eq] at h;have e:=zhc h.2.2.2;have ne:=zhs h.2.2.2;have q:=(zrp n h.2.1 h.2.2.1).1;show lineOf (ascii "penalty"::b::decimal n::ascii "if"::l.flatMap Cond.words)=_;have d1:ascii "penalty"≠ascii "claim":=by decide +kernel
  have d2:ascii "penalty"≠ascii "weight":=by decide +kernel
  have d3:ascii "penalty"≠ascii "says":=by decide +kernel
  have d4:ascii "penalty"≠ascii "denies":=by decide +kernel
  have d5:ascii "penalty"≠ascii "seen":=by decide +kernel
  have d6:ascii "penalty"≠ascii "unseen":=by decide +kernel
  have d7:ascii "penalty"≠ascii "for":=by decide +kernel
  have d8:ascii "penalty"≠ascii "against":=by decide +kernel
  simp only [lineOf,if_neg d1,if_neg d2,if_neg d3,if_neg d4,if_neg d5,if_neg d6,if_neg d7,if_neg d8,if_true,e,q];rw [if_pos ⟨h.1,by omega,trivial,ne⟩]
 | redress b l=>
  simp only [Line.ok,Bool.and_eq_true] at h;have e:=zhc h.2;have ne:=zhs h.2;show lineOf (ascii "redress"::b::ascii "if"::l.flatMap Cond.words)=_;have d1:ascii "redress"≠ascii "claim":=by decide +kernel
  have d2:ascii "redress"≠ascii "weight":=by decide +kernel
  have d3:ascii "redress"≠ascii "says":=by decide +kernel
  have d4:ascii "redress"≠ascii "denies":=by decide +kernel
  have d5:ascii "redress"≠ascii "seen":=by decide +kernel
  have d6:ascii "redress"≠ascii "unseen":=by decide +kernel
  have d7:ascii "redress"≠ascii "for":=by decide +kernel
  have d8:ascii "redress"≠ascii "against":=by decide +kernel
  have d9:ascii "redress"≠ascii "penalty":=by decide +kernel
  simp only [lineOf,if_neg d1,if_neg d2,if_neg d3,if_neg d4,if_neg d5,if_neg d6,if_neg d7,if_neg d8,if_neg d9,if_true,e];rw [if_pos ⟨h.1,trivial,ne⟩]
theorem zj5 {ws:List Bytes}{x:Line}(h:lineOf ws=some x):x.ok=true∧x.words=ws:=by
 cases ws with
 | nil=>cases h
 | cons w r=>
  simp only [lineOf] at h;by_cases e0:w=ascii "claim"
  ·rw [if_pos e0] at h;subst e0;split at h
   ·split at h
    ·rename_i q
     cases h;exact ⟨q,rfl⟩
    ·cases h
   ·cases h
  rw [if_neg e0] at h;by_cases e1:w=ascii "weight"
  ·rw [if_pos e1] at h;subst e1;split at h
   ·split at h
    ·rename_i q
     cases h;obtain ⟨a1,a2,a3⟩:=zu5 (by omega) q.2
     refine ⟨by simp only [Line.ok,Bool.and_eq_true,decide_eq_true_eq];exact ⟨q.1,a1,a2⟩,?_⟩
     simp only [Line.words,a3]
    ·cases h
   ·cases h
  rw [if_neg e1] at h;by_cases e2:w=ascii "says"
  ·rw [if_pos e2] at h;subst e2;split at h
   ·split at h
    ·rename_i q
     cases h;exact ⟨by simp only [Line.ok,Bool.and_eq_true];exact q,rfl⟩
    ·cases h
   ·cases h
  rw [if_neg e2] at h;by_cases e3:w=ascii "denies"
  ·rw [if_pos e3] at h;subst e3;split at h
   ·split at h
    ·rename_i q
     cases h;exact ⟨by simp only [Line.ok,Bool.and_eq_true];exact q,rfl⟩
    ·cases h
   ·cases h
  rw [if_neg e3] at h;by_cases e4:w=ascii "seen"
  ·rw [if_pos e4] at h;subst e4;split at h
   ·split at h
    ·rename_i q
     cases h;exact ⟨q,rfl⟩
    ·cases h
   ·cases h
  rw [if_neg e4] at h;by_cases e5:w=ascii "unseen"
  ·rw [if_pos e5] at h;subst e5;split at h
   ·split at h
    ·rename_i q
     cases h;exact ⟨q,rfl⟩
    ·cases h
   ·cases h
  rw [if_neg e5] at h;by_cases e6:w=ascii "for"
  ·rw [if_pos e6] at h;subst e6;split at h
   ·split at h
    ·rename_i q
     cases h;obtain ⟨q1,rfl,q2⟩:=q;obtain ⟨a1,a2⟩:=zi1 q2;refine ⟨by simp only [Line.ok,Bool.and_eq_true];exact ⟨q1,a1⟩,?_⟩
     show _::_::_::(condsL _).flatMap Cond.words=_;rw [a2];rfl
    ·cases h
   ·cases h
  rw [if_neg e6] at h;by_cases e7:w=ascii "against"
  ·rw [if_pos e7] at h;subst e7;split at h
   ·split at h
    ·rename_i q
     cases h;obtain ⟨q1,rfl,q2⟩:=q;obtain ⟨a1,a2⟩:=zi1 q2;refine ⟨by simp only [Line.ok,Bool.and_eq_true];exact ⟨q1,a1⟩,?_⟩
     show _::_::_::(condsL _).flatMap Cond.words=_;rw [a2];rfl
    ·cases h
   ·cases h
  rw [if_neg e7] at h;by_cases e8:w=ascii "penalty"
  ·rw [if_pos e8] at h;subst e8;split at h
   ·split at h
    ·rename_i q
     cases h;obtain ⟨q1,q0,rfl,q2⟩:=q;obtain ⟨a1,a2⟩:=zi1 q2;obtain ⟨b1,b2,b3⟩:=zu5 (by omega) q0
     refine ⟨by simp only [Line.ok,Bool.and_eq_true,decide_eq_true_eq];exact ⟨q1,b1,b2,a1⟩,?_⟩
     show _::_::_::_::(condsL _).flatMap Cond.words=_;rw [a2,b3]
    ·cases h
   ·cases h
  rw [if_neg e8] at h;by_cases e9:w=ascii "redress"
  ·rw [if_pos e9] at h;subst e9;split at h
   ·split at h
    ·rename_i q
     cases h;obtain ⟨q1,rfl,q2⟩:=q;obtain ⟨a1,a2⟩:=zi1 q2;refine ⟨by simp only [Line.ok,Bool.and_eq_true];exact ⟨q1,a1⟩,?_⟩
     show _::_::_::(condsL _).flatMap Cond.words=_;rw [a2]
    ·cases h
   ·cases h
  rw [if_neg e9] at h;cases h
theorem zjn {ws:List Bytes}{x:Line}:lineOf ws=some x↔x.ok=true∧x.words=ws:=
 ⟨zj5,fun ⟨h,e⟩=>e▸zrs h⟩
end
section
open RgCase
theorem zlx {x:Line}{b:Bytes}(h:x.ok=true)(e:x.words=cutAt 32 b):lineMaybe b=some x:=by
 unfold lineMaybe;rw [←e];cases x with
 | claim n=>simp only [Line.words,if_true,List.getD_cons_zero]
 | weight a n=>
  simp only [Line.ok,Bool.and_eq_true,decide_eq_true_eq] at h;have d1:ascii "weight"≠ascii "claim":=by decide +kernel
  simp only [Line.words,if_neg d1,if_true,List.getD_cons_zero,List.getD_cons_succ,(zu4 n h.2.1 h.2.2).2]
 | word s a c=>
  have d1:ascii "says"≠ascii "claim":=by decide +kernel
  have d2:ascii "says"≠ascii "weight":=by decide +kernel
  have d3:ascii "denies"≠ascii "claim":=by decide +kernel
  have d4:ascii "denies"≠ascii "weight":=by decide +kernel
  have d5:ascii "denies"≠ascii "says":=by decide +kernel
  cases s
  ·simp only [Line.words,Bool.false_eq_true,if_false,if_neg d3,if_neg d4,if_neg d5,if_true,List.getD_cons_zero,List.getD_cons_succ]
  ·simp only [Line.words,if_neg d1,if_neg d2,if_true,List.getD_cons_zero,List.getD_cons_succ]
 | seen s c=>
  cases s
  ·have d1:ascii "unseen"≠ascii "claim":=by decide +kernel
   have d2:ascii "unseen"≠ascii "weight":=by decide +kernel
   have d3:ascii "unseen"≠ascii "says":=by decide +kernel
   have d4:ascii "unseen"≠ascii "denies":=by decide +kernel
   have d5:ascii "unseen"≠ascii "seen":=by decide +kernel
   simp only [Line.words,Bool.false_eq_true,if_false,if_neg d1,if_neg d2,if_neg d3,if_neg d4,if_neg d5,if_true,List.getD_cons_zero]
  ·have d1:ascii "seen"≠ascii "claim":=by decide +kernel
   have d2:ascii "seen"≠ascii "weight":=by decide +kernel
   have d3:ascii "seen"≠ascii "says":=by decide +kernel
   have d4:ascii "seen"≠ascii "denies":=by decide +kernel
   simp only [Line.words,if_neg d1,if_neg d2,if_neg d3,if_neg d4,if_true,List.getD_cons_zero]
 | rule f c l=>
  simp only [Line.ok,Bool.and_eq_true] at h;have e2:=zga h.2;cases f
  ·have d1:ascii "against"≠ascii "claim":=by decide +kernel
   have d2:ascii "against"≠ascii "weight":=by decide +kernel
   have d3:ascii "against"≠ascii "says":=by decide +kernel
   have d4:ascii "against"≠ascii "denies":=by decide +kernel
   have d5:ascii "against"≠ascii "seen":=by decide +kernel
   have d6:ascii "against"≠ascii "unseen":=by decide +kernel
   have d7:ascii "against"≠ascii "for":=by decide +kernel
   simp only [Line.words,condWords,Bool.false_eq_true,if_false,List.cons_append,List.nil_append,if_neg d1,if_neg d2,if_neg d3,if_neg d4,if_neg d5,if_neg d6,if_neg d7,if_true,List.getD_cons_zero,List.drop_succ_cons,List.drop_zero,e2]
  ·have d1:ascii "for"≠ascii "claim":=by decide +kernel
   have d2:ascii "for"≠ascii "weight":=by decide +kernel
   have d3:ascii "for"≠ascii "says":=by decide +kernel
   have d4:ascii "for"≠ascii "denies":=by decide +kernel
   have d5:ascii "for"≠ascii "seen":=by decide +kernel
   have d6:ascii "for"≠ascii "unseen":=by decide +kernel
   simp only [Line.words,condWords,List.cons_append,List.nil_append,if_neg d1,if_neg d2,if_neg d3,if_neg d4,if_neg d5,if_neg d6,if_true,List.getD_cons_zero,List.drop_succ_cons,List.drop_zero,e2]
 | penalty c n l=>
  simp only [Line.ok,Bool.and_eq_true,decide_eq_true_eq] at h;have e2:=zga h.2.2.2;have d1:ascii "penalty"≠ascii "claim":=by decide +kernel
  have d2:ascii "penalty"≠ascii "weight":=by decide +kernel
  have d3:ascii "penalty"≠ascii "says":=by decide +kernel
  have d4:ascii "penalty"≠ascii "denies":=by decide +kernel
  have d5:ascii "penalty"≠ascii "seen":=by decide +kernel
  have d6:ascii "penalty"≠ascii "unseen":=by decide +kernel
  have d7:ascii "penalty"≠ascii "for":=by decide +kernel
  have d8:ascii "penalty"≠ascii "against":=by decide +kernel
  simp only [Line.words,condWords,List.cons_append,List.nil_append,if_neg d1,if_neg d2,if_neg d3,if_neg d4,if_neg d5,if_neg d6,if_neg d7,if_neg d8,if_true,List.getD_cons_zero,List.getD_cons_succ,List.drop_succ_cons,List.drop_zero,e2,(zrp n h.2.1 h.2.2.1).2]
 | redress c l=>
  simp only [Line.ok,Bool.and_eq_true] at h;have e2:=zga h.2;have d1:ascii "redress"≠ascii "claim":=by decide +kernel
  have d2:ascii "redress"≠ascii "weight":=by decide +kernel
  have d3:ascii "redress"≠ascii "says":=by decide +kernel
  have d4:ascii "redress"≠ascii "denies":=by decide +kernel
  have d5:ascii "redress"≠ascii "seen":=by decide +kernel
  have d6:ascii "redress"≠ascii "unseen":=by decide +kernel
  have d7:ascii "redress"≠ascii "for":=by decide +kernel
  have d8:ascii "redress"≠ascii "against":=by decide +kernel
  have d9:ascii "redress"≠ascii "penalty":=by decide +kernel
  simp only [Line.words,condWords,List.cons_append,List.nil_append,if_neg d1,if_neg d2,if_neg d3,if_neg d4,if_neg d5,if_neg d6,if_neg d7,if_neg d8,if_neg d9,if_true,List.getD_cons_zero,List.drop_succ_cons,List.drop_zero,e2]
theorem zep {b:Bytes}{x:Line}:lineIn b=some x↔x.ok=true∧x.words=cutAt 32 b:=by
 unfold lineIn;rw [Option.filter_eq_some_iff,Bool.and_eq_true,beq_iff_eq];constructor
 ·rintro ⟨_,h1,h2⟩;exact ⟨h1,(zog h1 b).mp h2⟩
 ·rintro ⟨h1,h2⟩;exact ⟨zlx h1 h2,h1,(zog h1 b).mpr h2⟩
theorem ziy (b:Bytes):lineIn b=lineOf (cutAt 32 b):=by
 apply Option.ext;intro x;rw [zep,zjn]
def sign (c:UInt8):Bool:=nameSign c||c==32||c==10
def canon (c:UInt8):UInt8:=if sign c=true then c else 63
theorem zpy {c:UInt8}(h:sign c=true):canon c=c:=if_pos h
theorem zng {c:UInt8}(h:sign (canon c)=true):canon c=c:=by
 unfold canon at h ⊢;split
 ·rfl
 ·rename_i q
  rw [if_neg q] at h;exact absurd h (by decide)
theorem canon_eq {x:UInt8}(hx:sign x=true)(c:UInt8):canon c=x↔c=x:=by
 constructor
 ·intro h;have:sign (canon c)=true:=by rw [h];exact hx
  rw [zng this] at h;exact h
 ·intro h;rw [h,zpy hx]
theorem zpv {x:UInt8}(hx:sign x=true):∀ b:Bytes,cutAt x (b.map canon)=(cutAt x b).map (·.map canon)
 | []=>rfl
 | c::r=>by
  by_cases e:c=x
  ·subst e;rw [List.map_cons,zpy hx,zaz,zaz,zpv hx r];rfl
  ·have e':canon c≠x:=fun z=>e ((canon_eq hx c).mp z);obtain ⟨l,m,e1,e2⟩:=zay e r;obtain ⟨l',m',e3,e4⟩:=zay e' (r.map canon);rw [List.map_cons,e4,e2];rw [zpv hx r,e1] at e3;cases e3;rfl
theorem zg9:∀ {b:Bytes},(∀ c∈b.map canon,nameSign c=true)→b.map canon=b
 | [],_=>rfl
 | c::r,h=>by
  have h1:nameSign (canon c)=true:=h _ (by simp)
  have h2:sign (canon c)=true:=by unfold sign;rw [h1];rfl
  rw [List.map_cons,zng h2,zg9 (b:=r) fun d hd=>h d (by simp only [List.map_cons];exact List.mem_cons_of_mem _ hd)]
theorem ziv:∀ {ws:List Bytes},(∀ w∈ws.map (·.map canon),wordOk w)→ws.map (·.map canon)=ws
 | [],_=>rfl
 | w::r,h=>by
  rw [List.map_cons,zg9 (b:=w) (h _ (by simp)),ziv (ws:=r) fun v hv=>h v (by simp only [List.map_cons];exact List.mem_cons_of_mem _ hv)]
theorem zn0 {w:Bytes}(h:wordOk w):w.map canon=w:=by
 induction w with
 | nil=>rfl
 | cons c r ih=>
  rw [List.map_cons,ih fun d hd=>h d (List.mem_cons_of_mem _ hd),zpy (by unfold sign;rw [h c List.mem_cons_self];rfl)]
theorem maps_id:∀ {ws:List Bytes},(∀ w∈ws,w.map canon=w)→ws=ws.map (·.map canon)
 | [],_=>rfl
 | w::r,h=>by rw [List.map_cons,h w List.mem_cons_self,←maps_id (ws:=r) fun v hv=>h v (List.mem_cons_of_mem _ hv)]
theorem zru (ws:List Bytes):lineOf (ws.map (·.map canon))=lineOf ws:=by
 apply Option.ext;intro x;rw [zjn,zjn];constructor
 ·rintro ⟨h,e⟩;refine ⟨h,?_⟩;rw [e];refine ziv fun w hw=>?_;rw [←e] at hw;exact zjm h w hw
 ·rintro ⟨h,e⟩;refine ⟨h,?_⟩;rw [←e];have:∀ w∈x.words,w.map canon=w:=fun w hw=>zn0 (zjm h w hw);exact maps_id this
theorem zrv (b:Bytes):lineIn (b.map canon)=lineIn b:=by
 rw [ziy,ziy,zpv (by decide),zru]
theorem zgl:∀ t:Bytes,∃ ls u,cutAt 10 t=ls++[u]∧splitLines t=(if u=[] then ls else ls++[u])∧(u=[]↔(t=[]∨t.getLast? = some 10))
 | []=>⟨[],[],rfl,rfl,by simp⟩
 | c::r=>by
  obtain ⟨ls,u,e1,e2,e3⟩:=zgl r;by_cases h:c=10
  ·subst h;refine ⟨[]::ls,u,by rw [zaz,e1];rfl,?_,?_⟩
   ·rw [splitLines,if_pos rfl,e2];split <;> rfl
   ·rw [e3];cases r with
    | nil=>simp
    | cons a s=>simp
  ·cases ls with
   | nil=>
    refine ⟨[],c::u,?_,?_,?_⟩
    ·rw [cutAt,if_neg h,e1];rfl
    ·rw [splitLines,if_neg h,e2];by_cases q:u=[]
     ·subst q;rfl
     ·rw [if_neg q,if_neg (by simp)]
      rfl
    ·simp only [false_iff,false_or,List.cons_ne_nil];cases r with
     | nil=>simpa using h
     | cons a s=>
      rw [List.getLast?_cons_cons];intro z;have q:u=[]:=e3.mpr (.inr z);subst q;have hcut:cutAt 10 (a::s)=[[]]:=e1;have hl:spaced [[]]=([]:Bytes):=rfl;by_cases ha:a=10
      ·subst ha;rw [zaz] at hcut;have:=List.cons.inj hcut;exact zcw 10 s this.2
      ·obtain ⟨l,m,_,e5⟩:=zay ha s;rw [e5] at hcut;cases hcut
   | cons l0 ls=>
    refine ⟨(c::l0)::ls,u,?_,?_,?_⟩
    ·rw [cutAt,if_neg h,e1];rfl
    ·rw [splitLines,if_neg h,e2];by_cases q:u=[]
     ·rw [if_pos q,if_pos q]
     ·rw [if_neg q,if_neg q];rfl
    ·rw [e3];cases r with
     | nil=>
      have:=congrArg List.length e1;simp [cutAt] at this
     | cons a s=>simp [List.getLast?_cons_cons]
def enterAll:Case→List Bytes→Except (Nat×Nat) Case
 | c,[]=>.ok c
 | c,b::r=>match lineIn b with
  | none=>.error (c.length,1)
  | some x=>if wrongOf c x=0 then enterAll (c++[x]) r else .error (c.length,wrongOf c x)
def unended (u:Bytes):Except (Nat×Nat) Case→Except (Nat×Nat) Case
 | .error e=>.error e
 | .ok c=>if u=[] then .ok c else .error (c.length,1)
theorem zh1:∀ (ls:List Bytes) (c:Case),caseFrom false c ls=enterAll c ls
 | [],c=>rfl
 | b::r,c=>by
  rw [caseFrom,enterAll,Bool.false_and,if_neg (by decide)]
  cases lineIn b with
  | none=>rfl
  | some x=>
   show (if wrongOf c x=0 then caseFrom false (c++[x]) r else .error (c.length,wrongOf c x))=_
   rw [zh1 r (c++[x])]
theorem zi4 (u:Bytes)(hu:u≠[]):∀ (ls:List Bytes) (c:Case),caseFrom true c (ls++[u])=unended u (enterAll c ls)
 | [],c=>by
  rw [List.nil_append,caseFrom,enterAll];simp only [List.isEmpty_nil,Bool.and_self,if_true,unended];rw [if_neg hu]
 | b::r,c=>by
  rw [List.cons_append,caseFrom,enterAll];have:(true&&(r++[u]).isEmpty)=false:=by simp
  rw [this,if_neg (by decide)]
  cases lineIn b with
  | none=>rfl
  | some x=>
   show (if wrongOf c x=0 then caseFrom true (c++[x]) (r++[u]) else .error (c.length,wrongOf c x))=unended u (if wrongOf c x=0 then enterAll (c++[x]) r else .error (c.length,wrongOf c x))
   rw [zi4 u hu r (c++[x])];split <;> rfl
theorem zlm {t:Bytes}{ls:List Bytes}{u:Bytes}(h:cutAt 10 t=ls++[u]):readCase t=unended u (enterAll [] ls):=by
 obtain ⟨ls',u',e1,e2,e3⟩:=zgl t;rw [h] at e1;obtain ⟨rfl,e4⟩:=List.append_inj' e1 rfl;cases e4;unfold readCase;rw [e2];by_cases hu:u=[]
 ·rw [if_pos hu];rcases e3.mp hu with q | q
  ·subst q;have:ls=[]:=by
    cases ls with
    | nil=>rfl
    | cons a r=>
     have:=congrArg List.length h;simp [cutAt] at this
   subst this;subst hu;rfl
  ·rw [q];show caseFrom false [] ls=_;rw [zh1,hu];cases enterAll [] ls <;> rfl
 ·rw [if_neg hu];have:(t.getLast? != some 10)=true:=by
   rw [bne_iff_ne];exact fun q=>hu (e3.mpr (.inr q))
  rw [this];exact zi4 u hu ls []
theorem zh0:∀ (ls:List Bytes) (c:Case),enterAll c (ls.map (·.map canon))=enterAll c ls
 | [],c=>rfl
 | b::r,c=>by
  rw [List.map_cons,enterAll,enterAll,zrv];cases lineIn b with
  | none=>rfl
  | some x=>
   show (if wrongOf c x=0 then enterAll (c++[x]) (r.map (·.map canon)) else .error (c.length,wrongOf c x))=_
   rw [zh0 r (c++[x])]
theorem zmn {t:Bytes}{ls:List Bytes}{u:Bytes}(h:cutAt 10 (t.map canon)=ls++[u]):readCase t=unended u (enterAll [] ls):=by
 obtain ⟨ls',u',e1,_,_⟩:=zgl t;rw [zlm e1];have e2:=zpv (x:=10) (by decide) t
 rw [h,e1,List.map_append] at e2;obtain ⟨rfl,e4⟩:=List.append_inj' e2 rfl;have e5:u=u'.map canon:=by simpa using e4
 rw [zh0,e5];have e6:u'.map canon=[]↔u'=[]:=List.map_eq_nil_iff;cases enterAll [] ls' with
 | error e=>rfl
 | ok c=>
  by_cases q:u'=[]
  ·show (if u'=[] then Except.ok c else _)=if u'.map canon=[] then Except.ok c else _
   rw [if_pos q,if_pos (e6.mpr q)]
  ·show (if u'=[] then Except.ok c else _)=if u'.map canon=[] then Except.ok c else _
   rw [if_neg q,if_neg fun z=>q (e6.mp z)]
end
section
open RgCase
inductive Valid:Case→Prop
 | nil:Valid []
 | snoc {c:Case} {l:Line}:Valid c→l.ok=true→wrongOf c l=0→Valid (c++[l])
theorem zhz:∀ {ls:List Bytes} {c d:Case},Valid c→enterAll c ls=.ok d→Valid d
 | [],c,d,v,h=>by
  cases h;exact v
 | b::r,c,d,v,h=>by
  rw [enterAll] at h;cases e:lineIn b with
  | none=>
   rw [e] at h;cases h
  | some x=>
   rw [e] at h;have h':(if wrongOf c x=0 then enterAll (c++[x]) r else .error (c.length,wrongOf c x))=.ok d:=h
   by_cases q:wrongOf c x=0
   ·rw [if_pos q] at h';exact zhz (.snoc v (zep.mp e).1 q) h'
   ·rw [if_neg q] at h';cases h'
theorem zb2 {c:Case}{l:Line}(h:wrongOf c l=0):stands c l=true∧clashes c l=false∧tooMany c l=false:=by
 unfold wrongOf at h;by_cases h1:stands c l=false
 ·rw [if_pos h1] at h;cases h
 ·rw [if_neg h1] at h;by_cases h2:clashes c l=true
  ·rw [if_pos h2] at h;cases h
  ·rw [if_neg h2] at h;by_cases h3:tooMany c l=true
   ·rw [if_pos h3] at h;cases h
   ·exact ⟨by simpa using h1,by simpa using h2,by simpa using h3⟩
def newClaim:Line→List Name
 | .claim n=>[n]
 | _=>[]
def newNamed:Line→List Name
 | .weight w _=>[w]
 | .word _ w _=>[w]
 | _=>[]
theorem zbu (c:Case)(l:Line):claims (c++[l])=claims c++newClaim l:=by
 unfold claims;rw [List.filterMap_append];congr 1
 cases l <;> rfl
theorem zwd (c:Case)(l:Line):named (c++[l])=named c++newNamed l:=by
 unfold named;rw [List.filterMap_append];congr 1
 cases l <;> rfl
def addName (s:List Name)(w:Name):List Name:=if s.contains w=true then s else s++[w]
theorem zdh (c:Case)(l:Line):witnesses (c++[l])=(newNamed l).foldl addName (witnesses c):=by
 unfold witnesses;rw [zwd,List.foldl_append];rfl
theorem ztw {s:List Name}{w v:Name}:v∈addName s w↔v∈s∨v=w:=by
 unfold addName;split
 ·rename_i h
  constructor
  ·exact .inl
  ·rintro (h1 | rfl)
   ·exact h1
   ·exact List.contains_iff_mem.mp h
 ·rw [List.mem_append,List.mem_singleton]
theorem zpa {s:List Name}(h:s.Nodup)(w:Name):(addName s w).Nodup:=by
 unfold addName;split
 ·exact h
 ·rename_i q
  rw [List.nodup_append];refine ⟨h,by simp,fun a ha b hb e=>?_⟩
  rcases List.mem_singleton.mp hb with rfl;subst e;exact q (List.contains_iff_mem.mpr ha)
theorem zde:∀ {ws s:List Name} {v:Name},v∈ws.foldl addName s↔v∈s∨v∈ws
 | [],s,v=>by simp
 | w::r,s,v=>by rw [List.foldl_cons,zde,ztw,List.mem_cons,or_assoc]
theorem zel:∀ {ws s:List Name},s.Nodup→(ws.foldl addName s).Nodup
 | [],_,h=>h
 | w::r,s,h=>by
  rw [List.foldl_cons];exact zel (zpa h w)
theorem za4 {c:Case}{v:Name}:v∈witnesses c↔v∈named c:=by
 show v∈(named c).foldl addName []↔_;rw [zde];simp
theorem zj1:∀ (ws s:List Name),∃ t,ws.foldl addName s=s++t
 | [],s=>⟨[],by simp⟩
 | w::r,s=>by
  obtain ⟨t,e⟩:=zj1 r (addName s w);rw [List.foldl_cons,e];unfold addName;split
  ·exact ⟨t,rfl⟩
  ·exact ⟨w::t,by simp⟩
theorem zke (c:Case)(l:Line):∃ t,witnesses (c++[l])=witnesses c++t:=by
 rw [zdh];exact zj1 _ _
theorem zkc {c:Case}(v:Valid c):(claims c).Nodup:=by
 induction v with
 | nil=>exact List.nodup_nil
 | @snoc c l v hl hw ih=>
  rw [zbu];cases l with
  | claim n=>
   have h:=(zb2 hw).2.1;have h':(claims c).contains n=false:=h;rw [List.nodup_append];refine ⟨ih,by simp [newClaim],fun a ha b hb e=>?_⟩
   have hb':b=n:=by simpa [newClaim] using hb
   subst hb';subst e;rw [List.contains_iff_mem.mpr ha] at h';cases h'
  | _=>simpa [newClaim] using ih
theorem za3 {c:Case}{l:Line}(h:stands c l=true):∀ n∈l.claims,n∈claims c:=fun n hn=>by
 unfold stands at h;exact List.contains_iff_mem.mp (List.all_eq_true.mp (Bool.and_eq_true_iff.mp h).1 n hn)
theorem zbr {c:Case}(v:Valid c):∀ l∈c,∀ n∈l.claims,n∈claims c:=by
 induction v with
 | nil=>simp
 | @snoc c l v hl hw ih=>
  intro l' hl' n hn;rw [zbu];rcases List.mem_append.mp hl' with h | h
  ·exact List.mem_append_left _ (ih l' h n hn)
  ·rcases List.mem_singleton.mp h with rfl;exact List.mem_append_left _ (za3 (zb2 hw).1 n hn)
theorem zfj {c:Case}{l:Line}(h:l∈c):∀ w∈newNamed l,w∈named c:=fun w hw=>by
 unfold named;refine List.mem_filterMap.mpr ⟨l,h,?_⟩;cases l <;> simp_all [newNamed]
theorem zd5 {α:Type}[BEq α][LawfulBEq α]{s t:List α}{x:α}(h:x∈s):(s++t).idxOf x=s.idxOf x:=by
 rw [List.idxOf_append];rw [if_pos h]
theorem zid (c:Case)(l:Line)(w:Name):weightOf (c++[l]) w=match (c.findSome? fun (l:Line)=>match l with
 | .weight v n=>if v=w then some n else none
 | _=>none) with
  | some n=>n
  | none=>(match l with | .weight v n=>if v=w then n else 1 | _=>1):=by
 unfold weightOf;rw [List.findSome?_append];cases List.findSome? _ c with
 | some n=>rfl
 | none=>
  cases l with
  | weight v n=>
   by_cases e:v=w
   ·simp [e]
   ·simp [e]
  | _=>rfl
theorem zn5 {c:Case}{w:Name}:weightOf c w=(c.findSome? fun (l:Line)=>match l with
 | .weight v n=>if v=w then some n else none
 | _=>none).getD 1:=rfl
theorem no_weight {c:Case}{w:Name}(h:w∉named c):(c.findSome? fun (l:Line)=>match l with
 | .weight v n=>if v=w then some n else none
 | _=>none)=none:=by
 rw [List.findSome?_eq_none_iff];intro l hl;cases l with
 | weight v n=>
  have:v∈named c:=zfj hl v (by simp [newNamed])
  have:v≠w:=fun e=>h (e▸this);simp [this]
 | _=>rfl
theorem zhw {c:Case}{l:Line}{w:Name}(hw:wrongOf c l=0)(h:w∈named c):weightOf (c++[l]) w=weightOf c w:=by
 rw [zid,zn5];cases e:List.findSome? _ c with
 | some n=>rfl
 | none=>
  cases l with
  | weight v n=>
   have h2:(named c).contains v=false:=(zb2 hw).2.1;have:v≠w:=fun e=>by
    subst e;rw [List.contains_iff_mem.mpr h] at h2;cases h2
   simp [this]
  | _=>rfl
def lineWeight:Line→Nat
 | .weight _ n=>n
 | _=>1
theorem zqf {c:Case}{l:Line}{w:Name}(h:w∉named c)(hl:w∈newNamed l):weightOf (c++[l]) w=lineWeight l:=by
 rw [zid,no_weight h];cases l with
 | weight v n=>
  have:w=v:=by simpa [newNamed] using hl
  simp [this,lineWeight]
 | _=>rfl
def weights (c:Case):List Nat:=(witnesses c).map (weightOf c)
theorem zqe {c:Case}{l:Line}(hw:wrongOf c l=0):weights (c++[l])=weights c++(match newNamed l with
 | [w]=>if w∈witnesses c then [] else [lineWeight l]
 | _=>[]):=by
 have old:(witnesses c).map (weightOf (c++[l]))=(witnesses c).map (weightOf c):=by
  refine List.map_congr_left fun w h=>zhw hw (za4.mp h)
 unfold weights;rw [zdh];cases e:newNamed l with
 | nil=>rw [List.foldl_nil,old];simp
 | cons w r=>
  have hr:r=[]:=by cases l <;> simp_all [newNamed]
  subst hr;rw [List.foldl_cons,List.foldl_nil];unfold addName;by_cases q:w∈witnesses c
  ·rw [if_pos (List.contains_iff_mem.mpr q)];simp only [if_pos q];rw [old,List.append_nil]
  ·rw [if_neg fun z=>q (List.contains_iff_mem.mp z)];simp only [if_neg q];rw [List.map_append,old];congr 1
   simp only [List.map_cons,List.map_nil];rw [zqf (fun z=>q (za4.mpr z)) (by rw [e];simp)]
end
section
open RgCase
def rulesIn (ns:List Name)(c:Case)(n:Name):List (Bool×Conds):=c.filterMap fun (l:Line)=>match l with
 | .rule f m cs=>if m=n then some (f,numbered ns cs) else none
 | _=>none
def wordsIn (ws:List Name)(wt:Name→Nat)(c:Case)(n:Name):List (Bool×Nat×Nat):=c.filterMap fun (l:Line)=>match l with
 | .word s w m=>if m=n then some (s,ws.idxOf w,wt w) else none
 | _=>none
def knownN (c:Case)(n:Name):Known:=⟨seenOf c n,rulesIn (claims c) c n,wordsIn (witnesses c) (weightOf c) c n⟩
theorem zhp (c:Case):knownOf c=(claims c).map (knownN c):=rfl
theorem zbq {ns t:List Name}{cs:List Cond}(h:∀ x∈cs,x.claim∈ns):numbered (ns++t) cs=numbered ns cs:=by
 unfold numbered;refine List.map_congr_left fun x hx=>?_;rw [zd5 (h x hx)]
theorem filterMap_congr' {α β:Type}{f g:α→Option β}:∀ {l:List α},(∀ x∈l,f x=g x)→l.filterMap f=l.filterMap g
 | [],_=>rfl
 | a::r,h=>by
  rw [List.filterMap_cons,List.filterMap_cons,h a List.mem_cons_self,filterMap_congr' (l:=r) fun x hx=>h x (List.mem_cons_of_mem _ hx)]
theorem zmm {ns t:List Name}{c:Case}(h:∀ l∈c,∀ m∈l.claims,m∈ns)(n:Name):rulesIn (ns++t) c n=rulesIn ns c n:=by
 unfold rulesIn;refine filterMap_congr' fun l hl=>?_;cases l with
 | rule f m cs=>
  show (if m=n then some (f,numbered (ns++t) cs) else none)=if m=n then some (f,numbered ns cs) else none
  rw [zbq fun x hx=>h _ hl _ (by simp only [Line.claims];exact List.mem_cons_of_mem _ (List.mem_map.mpr ⟨x,hx,rfl⟩))]
 | _=>rfl
theorem zmf {ws t:List Name}{wt wt':Name→Nat}{c:Case}(h:∀ l∈c,∀ w∈newNamed l,w∈ws∧wt' w=wt w)(n:Name):wordsIn (ws++t) wt' c n=wordsIn ws wt c n:=by
 unfold wordsIn;refine filterMap_congr' fun l hl=>?_;cases l with
 | word s w m=>
  obtain ⟨h1,h2⟩:=h _ hl w (by simp [newNamed])
  show (if m=n then some (s,(ws++t).idxOf w,wt' w) else none)=if m=n then some (s,ws.idxOf w,wt w) else none
  rw [zd5 h1,h2]
 | _=>rfl
def addK (ns ws:List Name)(wt:Name→Nat)(l:Line)(n:Name)(q:Known):Known:=match l with
 | .word s w m=>if m=n then ⟨q.seen,q.rules,q.words++[(s,ws.idxOf w,wt w)]⟩ else q
 | .seen s m=>if m=n then ⟨some s,q.rules,q.words⟩ else q
 | .rule f m cs=>if m=n then ⟨q.seen,q.rules++[(f,numbered ns cs)],q.words⟩ else q
 | _=>q
theorem zta (c:Case)(l:Line)(n:Name):seenOf (c++[l]) n=match seenOf c n with
 | some b=>some b
 | none=>(match l with | .seen s m=>if m=n then some s else none | _=>none):=by
 unfold seenOf;rw [List.findSome?_append];cases List.findSome? _ c with
 | some b=>rfl
 | none=>
  cases l with
  | seen s m=>
   by_cases e:m=n
   ·simp [e]
   ·simp [e]
  | _=>rfl
theorem seen_none {c:Case}{s:Bool}{m:Name}(h:clashes c (.seen s m)=false):seenOf c m=none:=by
 unfold seenOf;rw [List.findSome?_eq_none_iff];intro l hl;have h':=List.any_eq_false.mp (show (c.any _)=false from h) l hl
 cases l with
 | seen t k=>
  have:k≠m:=by simpa using h'
  simp [this]
 | _=>rfl
theorem zxw {c:Case}{s:Bool}{m:Name}:clashes c (.seen s m)=(seenOf c m).isSome:=by
 show (c.any fun (l:Line)=>match l with
  | .seen _ k=>k==m
  | _=>false)=_
 unfold seenOf;induction c with
 | nil=>rfl
 | cons l r ih=>
  rw [List.any_cons,List.findSome?_cons];cases l with
  | seen t k=>
   by_cases e:k=m
   ·simp [e]
   ·simp only [beq_eq_false_iff_ne.mpr e,Bool.false_or,if_neg e];exact ih
  | _=>simpa using ih
theorem zq0 (ns:List Name)(c:Case)(l:Line)(n:Name):rulesIn ns (c++[l]) n=rulesIn ns c n++(match l with
 | .rule f m cs=>if m=n then [(f,numbered ns cs)] else []
 | _=>[]):=by
 unfold rulesIn;rw [List.filterMap_append];congr 1
 cases l with
 | rule f m cs=>
  by_cases e:m=n
  ·simp [e]
  ·simp [e]
 | _=>rfl
theorem zqb (ws:List Name)(wt:Name→Nat)(c:Case)(l:Line)(n:Name):wordsIn ws wt (c++[l]) n=wordsIn ws wt c n++(match l with
 | .word s w m=>if m=n then [(s,ws.idxOf w,wt w)] else []
 | _=>[]):=by
 unfold wordsIn;rw [List.filterMap_append];congr 1
 cases l with
 | word s w m=>
  by_cases e:m=n
  ·simp [e]
  ·simp [e]
 | _=>rfl
theorem zit {c:Case}{f:Bool}{m:Name}{cs:List Cond}(h:stands c (.rule f m cs)=true)(t:List Name):numbered (claims c++t) cs=numbered (claims c) cs:=
 zbq fun x hx=>za3 h _ (by simp only [Line.claims];exact List.mem_cons_of_mem _ (List.mem_map.mpr ⟨x,hx,rfl⟩))
theorem known_old {c:Case}{l:Line}(v:Valid c)(hw:wrongOf c l=0)(n:Name):
  knownN (c++[l]) n=addK (claims c) (witnesses (c++[l])) (weightOf (c++[l])) l n (knownN c n):=by
 obtain ⟨h1,h2,h3⟩:=zb2 hw;obtain ⟨t,et⟩:=zke c l;have e1:rulesIn (claims (c++[l])) c n=rulesIn (claims c) c n:=by
  rw [zbu];exact zmm (fun k hk m hm=>zbr v k hk m hm) n
 have e2:wordsIn (witnesses (c++[l])) (weightOf (c++[l])) c n=wordsIn (witnesses c) (weightOf c) c n:=by
  rw [et];exact zmf (fun k hk w hm=>⟨za4.mpr (zfj hk w hm),zhw hw (zfj hk w hm)⟩) n
 unfold knownN;rw [zta,zq0,zqb,e1,e2];cases l with
 | word s w m=>
  by_cases e:m=n
  ·simp only [addK,if_pos e,List.append_nil];cases seenOf c n <;> rfl
  ·simp only [addK,if_neg e,List.append_nil];cases seenOf c n <;> rfl
 | seen s m=>
  by_cases e:m=n
  ·subst e;simp only [addK,if_true,List.append_nil,seen_none h2]
  ·simp only [addK,if_neg e,List.append_nil];cases seenOf c n <;> rfl
 | rule f m cs=>
  have q:numbered (claims (c++[.rule f m cs])) cs=numbered (claims c) cs:=by
   rw [zbu];exact zit h1 _
  by_cases e:m=n
  ·simp only [addK,if_pos e,List.append_nil,q];cases seenOf c n <;> rfl
  ·simp only [addK,if_neg e,List.append_nil];cases seenOf c n <;> rfl
 | claim _=>
  simp only [addK,List.append_nil];cases seenOf c n <;> rfl
 | weight _ _=>
  simp only [addK,List.append_nil];cases seenOf c n <;> rfl
 | penalty _ _ _=>
  simp only [addK,List.append_nil];cases seenOf c n <;> rfl
 | redress _ _=>
  simp only [addK,List.append_nil];cases seenOf c n <;> rfl
theorem zwk {c:Case}(v:Valid c){n:Name}(h:n∉claims c):knownN c n=⟨none,[],[]⟩:=by
 have a:=zbr v;unfold knownN;have e1:seenOf c n=none:=by
  unfold seenOf;rw [List.findSome?_eq_none_iff];intro l hl;cases l with
  | seen s m=>
   have:m≠n:=fun e=>h (e▸a _ hl m (by simp [Line.claims]))
   simp [this]
  | _=>rfl
 have e2:rulesIn (claims c) c n=[]:=by
  unfold rulesIn;rw [List.filterMap_eq_nil_iff];intro l hl;cases l with
  | rule f m cs=>
   have:m≠n:=fun e=>h (e▸a _ hl m (by simp [Line.claims]))
   simp [this]
  | _=>rfl
 have e3:wordsIn (witnesses c) (weightOf c) c n=[]:=by
  unfold wordsIn;rw [List.filterMap_eq_nil_iff];intro l hl;cases l with
  | word s w m=>
   have:m≠n:=fun e=>h (e▸a _ hl m (by simp [Line.claims]))
   simp [this]
  | _=>rfl
 rw [e1,e2,e3]
theorem zvo {c:Case}{s:Bool}{w n:Name}:clashes c (.word s w n)=((knownN c n).words.any fun x=>x.2.1==(witnesses c).idxOf w):=by
 have key:∀ d:Case,(∀ l∈d,∀ x∈newNamed l,x∈witnesses c)→(d.any fun (l:Line)=>match l with
  | .word _ v m=>v==w&&m==n
  | _=>false)=((wordsIn (witnesses c) (weightOf c) d n).any fun x=>x.2.1==(witnesses c).idxOf w):=by
  intro d;induction d with
  | nil=>intro _;rfl
  | cons l r ih=>
   intro hd;have ih':=ih fun k hk=>hd k (List.mem_cons_of_mem _ hk);unfold wordsIn at ih' ⊢;rw [List.any_cons,List.filterMap_cons,ih'];cases l with
   | word t u m=>
    have hu:u∈witnesses c:=hd _ List.mem_cons_self u (by simp [newNamed])
    by_cases e:m=n
    ·subst e;simp only [if_true,List.any_cons,beq_self_eq_true,Bool.and_true];congr 1
     by_cases q:u=w
     ·subst q;simp
     ·rw [beq_eq_false_iff_ne.mpr q];symm
      rw [beq_eq_false_iff_ne];intro z;refine q ?_;have h1:=List.getElem_idxOf (List.idxOf_lt_length_of_mem hu);have h2:(witnesses c).idxOf w<(witnesses c).length:=by
       rw [←z];exact List.idxOf_lt_length_of_mem hu
      have h3:=List.getElem_idxOf h2;rw [←h1,←h3];congr 1
    ·simp only [if_neg e,beq_eq_false_iff_ne.mpr e,Bool.and_false,Bool.false_or]
   | _=>simp
 exact key c fun l hl x hx=>za4.mpr (zfj hl x hx)
end
section
open RgCase
def holdsL (acc:List (Value×Nat))(l:Conds):Bool:=l.all fun (x:Nat×Value)=>(acc.map (·.1)).getD x.1 3==x.2
def settleStep (out:Nat)(acc:List (Value×Nat))(q:Known):List (Value×Nat):=acc++[settleBy (acc.map (·.1)).toArray out q]
def settleL (ks:List Known)(out:Nat):List (Value×Nat):=ks.foldl (settleStep out) []
theorem zp7 {α:Type}(l:List α)(i:Nat)(d:α):l.toArray.getD i d=l.getD i d:=by
 rw [Array.getD_eq_getD_getElem?,List.getD_eq_getElem?_getD];simp
theorem zif (acc:List (Value×Nat))(l:Conds):soIn (acc.map (·.1)).toArray l=holdsL acc l:=by
 unfold soIn holdsL;congr 1
 funext x
 rw [zp7]
theorem zj0 (out:Nat):∀ (ks:List Known) (acc:List (Value×Nat)),
  ks.foldl (fun (x:Array Value×Array Nat) (q:Known)=>let y:=settleBy x.1 out q;(x.1.push y.1,x.2.push y.2)) ((acc.map (·.1)).toArray,(acc.map (·.2)).toArray)
   = (((ks.foldl (settleStep out) acc).map (·.1)).toArray,((ks.foldl (settleStep out) acc).map (·.2)).toArray)
 | [],acc=>rfl
 | q::r,acc=>by
  rw [List.foldl_cons,List.foldl_cons];have:=zj0 out r (settleStep out acc q);rw [←this];congr 1
  simp [settleStep]
theorem zdl (ks:List Known)(out:Nat):settledOf ks out=(((settleL ks out).map (·.1)).toArray,((settleL ks out).map (·.2)).toArray):=zj0 out ks []
theorem znh (out:Nat):∀ (ks:List Known) (acc:List (Value×Nat)),(ks.foldl (settleStep out) acc).length=acc.length+ks.length
 | [],acc=>rfl
 | q::r,acc=>by
  rw [List.foldl_cons,znh out r];simp [settleStep];omega
theorem zda (ks:List Known)(out:Nat):(settleL ks out).length=ks.length:=by
 unfold settleL;rw [znh];simp
theorem zig (out:Nat):∀ (ks:List Known) (acc:List (Value×Nat)),∃ t,ks.foldl (settleStep out) acc=acc++t
 | [],acc=>⟨[],by simp⟩
 | q::r,acc=>by
  obtain ⟨t,e⟩:=zig out r (settleStep out acc q);exact ⟨[settleBy (acc.map (·.1)).toArray out q]++t,by rw [List.foldl_cons,e];simp [settleStep]⟩
theorem zqu (ks:List Known)(q:Known)(out:Nat):settleL (ks++[q]) out=settleL ks out++[settleBy ((settleL ks out).map (·.1)).toArray out q]:=by
 unfold settleL;rw [List.foldl_append];rfl
theorem zgx (ks:List Known)(out k:Nat):settleL (ks.take k) out=(settleL ks out).take k:=by
 by_cases hk:k≤ks.length
 ·have e0:settleL ks out=(ks.drop k).foldl (settleStep out) (settleL (ks.take k) out):=by
   unfold settleL;rw [←List.foldl_append,List.take_append_drop]
  obtain ⟨t,e⟩:=zig out (ks.drop k) (settleL (ks.take k) out);have hl:(settleL (ks.take k) out).length=k:=by rw [zda,List.length_take];omega
  rw [e0,e,List.take_append_of_le_length (by omega)]
  exact (List.take_of_length_le (by omega)).symm
 ·have hk':ks.length≤k:=by omega
  rw [List.take_of_length_le hk',List.take_of_length_le (by rw [zda];exact hk')]
theorem zjz (ks:List Known)(out i:Nat)(hi:i<ks.length):∃ y,(settleL ks out)[i]? = some y∧(settledOf ks out).1.getD i 3=y.1∧(settledOf ks out).2.getD i 3=y.2:=by
 have hl:i<(settleL ks out).length:=by rw [zda];exact hi
 refine ⟨(settleL ks out)[i],List.getElem?_eq_getElem hl,?_,?_⟩
 ·rw [zdl,zp7,List.getD_eq_getElem?_getD,List.getElem?_map,List.getElem?_eq_getElem hl];rfl
 ·rw [zdl,zp7,List.getD_eq_getElem?_getD,List.getElem?_map,List.getElem?_eq_getElem hl];rfl
end
section
open RgCase
def bitOf (v i:Nat):Nat:=2^(4*i+v)
def needN (cs:Conds):Nat:=cs.foldl (fun a x=>a ||| bitOf x.2 x.1) 0
def factsL (os:List (Value×Nat)):Nat:=os.zipIdx.foldl (fun a x=>a ||| bitOf x.1.1 x.2) 0
def holdsN (facts need:Nat):Bool:=decide (facts &&& need=need)
theorem zt9 (os:List (Value×Nat))(o:Value×Nat):factsL (os++[o])=factsL os ||| bitOf o.1 os.length:=by
 unfold factsL;rw [List.zipIdx_append,List.foldl_append];simp
theorem zl6 {α:Type}(g:α→Nat):∀ (l:List α) (a k:Nat),(l.foldl (fun a x=>a ||| 2^g x) a).testBit k=(a.testBit k||l.any fun x=>decide (g x=k))
 | [],a,k=>by simp
 | x::r,a,k=>by
  rw [List.foldl_cons,zl6 g r,Nat.testBit_or,Nat.testBit_two_pow,List.any_cons,Bool.or_assoc]
theorem zu6 (cs:Conds)(k:Nat):(needN cs).testBit k=cs.any fun x=>decide (4*x.1+x.2=k):=by
 have:=zl6 (fun x:Nat×Value=>4*x.1+x.2) cs 0 k;rw [Nat.zero_testBit,Bool.false_or] at this;exact this
theorem zr6 (os:List (Value×Nat))(k:Nat):(factsL os).testBit k=os.zipIdx.any fun x=>decide (4*x.2+x.1.1=k):=by
 have:=zl6 (fun x:(Value×Nat)×Nat=>4*x.2+x.1.1) os.zipIdx 0 k;rw [Nat.zero_testBit,Bool.false_or] at this;exact this
theorem zws {f n:Nat}:holdsN f n=true↔∀ k,n.testBit k=true→f.testBit k=true:=by
 unfold holdsN;rw [decide_eq_true_iff];constructor
 ·intro h k hk;have:=congrArg (fun z=>Nat.testBit z k) h;simp only [Nat.testBit_and] at this;rw [hk,Bool.and_true] at this;exact this
 ·intro h;refine Nat.eq_of_testBit_eq fun k=>?_;rw [Nat.testBit_and];cases hk:n.testBit k with
  | false=>rw [Bool.and_false]
  | true=>rw [h k hk];rfl
theorem zl5 {os:List (Value×Nat)}{cs:Conds}(hv:∀ o∈os,o.1≤3)(hc:∀ x∈cs,x.2≤3∧x.1<os.length):holdsN (factsL os) (needN cs)=holdsL os cs:=by
 have key:holdsN (factsL os) (needN cs)=true↔holdsL os cs=true:=by
  rw [zws];unfold holdsL;rw [List.all_eq_true];constructor
  ·intro h x hx;obtain ⟨h3,hl⟩:=hc x hx;have h1:=h (4*x.1+x.2) (by rw [zu6,List.any_eq_true];exact ⟨x,hx,by simp⟩)
   rw [zr6,List.any_eq_true] at h1;obtain ⟨⟨o,j⟩,hm,he⟩:=h1;have he':4*j+o.1=4*x.1+x.2:=of_decide_eq_true he;have hj:=List.mem_zipIdx hm;have ho:o∈os:=by rw [hj.2.2];exact List.getElem_mem _
   have aux:∀ a b c d:Nat,a≤3→d≤3→4*b+a=4*c+d→b=c:=fun a b c d _ _ _=>by omega
   have ej:j=x.1:=aux o.1 j x.1 x.2 (hv o ho) h3 he';have ev:o.1=x.2:=by
    subst ej;have:=he';exact Nat.add_left_cancel this
   subst ej;rw [beq_iff_eq,List.getD_eq_getElem?_getD,List.getElem?_map,List.getElem?_eq_getElem hl];have e2:os[x.1]=o:=by rw [hj.2.2];simp
   show (os[x.1]).1=x.2;rw [e2,ev]
  ·intro h k hk;rw [zu6,List.any_eq_true] at hk;obtain ⟨x,hx,he⟩:=hk;have he':4*x.1+x.2=k:=of_decide_eq_true he;obtain ⟨h3,hl⟩:=hc x hx;have h1:=h x hx;rw [beq_iff_eq,List.getD_eq_getElem?_getD,List.getElem?_map,List.getElem?_eq_getElem hl] at h1;have h1':(os[x.1]).1=x.2:=h1;rw [zr6,List.any_eq_true];refine ⟨(os[x.1],x.1),?_,?_⟩
   ·rw [List.mem_zipIdx_iff_getElem?];exact List.getElem?_eq_getElem hl
   ·simp only [decide_eq_true_iff];rw [h1'];exact he'
 cases h1:holdsN (factsL os) (needN cs) with
 | true=>rw [key.mp h1]
 | false=>
  cases h2:holdsL os cs with
  | false=>rfl
  | true=>rw [key.mpr h2] at h1;cases h1
theorem zs8 (vs:Array Value)(out:Nat)(q:Known):1≤(settleBy vs out q).1∧(settleBy vs out q).1≤3:=by
 unfold settleBy;split
 ·split <;> simp
 ·dsimp only;split
  ·dsimp only;split
   ·simp
   ·split <;> simp
  ·dsimp only;split
   ·simp
   ·split <;> simp
theorem zni (ks:List Known)(out:Nat):∀ o∈settleL ks out,o.1≤3:=by
 unfold settleL;have key:∀ (ks:List Known) (acc:List (Value×Nat)),(∀ o∈acc,o.1≤3)→∀ o∈ks.foldl (settleStep out) acc,o.1≤3:=by
  intro ks;induction ks with
  | nil=>intro acc h;exact h
  | cons q r ih=>
   intro acc h;rw [List.foldl_cons];refine ih _ fun o ho=>?_;rcases List.mem_append.mp ho with ho | ho
   ·exact h o ho
   ·rw [List.mem_singleton.mp ho];exact (zs8 _ _ _).2
 exact key ks [] (by simp)
structure RuleA where
 line:Nat
 made:Nat
 need:Nat
structure ClaimA where
 known:Nat
 words:List (Nat×Nat)
 rules:List RuleA
def b12 (b:Bool):Nat:=if b=true then 1 else 2
def goingA (facts:Nat)(q:ClaimA):List RuleA:=q.rules.filter fun r=>holdsN facts r.need
def vRules (facts:Nat)(q:ClaimA):Nat:=let made:=(goingA facts q).map (·.made)
 if 1∈made∧2∈made then 3 else made.headD 0
def balStep (ws:List Nat)(out:Nat)(b:Int)(x:Nat×Nat):Int:=if out.testBit x.1=false then (if x.2=1 then b+ws.getD x.1 0 else b - ws.getD x.1 0) else b
def balance (ws:List Nat)(out:Nat)(q:ClaimA):Int:=q.words.foldl (balStep ws out) 0
def vWit (ws:List Nat)(out:Nat)(q:ClaimA):Nat:=if balance ws out q=0 then 3 else if 0<balance ws out q then 1 else 2
def settleA (ws:List Nat)(out facts:Nat)(q:ClaimA):Nat×Nat:=if q.known≠0 then (q.known,1) else if vRules facts q≠0 then (vRules facts q,2) else (vWit ws out q,3)
def seenN:Option Bool→Nat
 | none=>0
 | some b=>b12 b
structure Tells (ws:List Nat)(q:ClaimA)(k:Known)(i:Nat):Prop where
 known:q.known=seenN k.seen
 words:q.words=k.words.map fun x=>(x.2.1,b12 x.1)
 rules:q.rules.map (fun r=>(r.made,r.need))=k.rules.map fun x=>(b12 x.1,needN x.2)
 weights:∀ x∈k.words,ws.getD x.2.1 0=x.2.2
 conds:∀ x∈k.rules,∀ y∈x.2,y.2≤3∧y.1<i
theorem zn2 (ws:List Nat)(out:Nat):∀ (l:List (Bool×Nat×Nat)) (b:Int),(∀ x∈l,ws.getD x.2.1 0=x.2.2)→
  (l.map fun x=>(x.2.1,b12 x.1)).foldl (balStep ws out) b=b+((l.map fun x=>if x.1=true∧out.testBit x.2.1=false then x.2.2 else 0).sum:Nat) - ((l.map fun x=>if x.1=false∧out.testBit x.2.1=false then x.2.2 else 0).sum:Nat)
 | [],b,_=>by simp
 | x::r,b,h=>by
  rw [List.map_cons,List.foldl_cons,zn2 ws out r _ fun y hy=>h y (List.mem_cons_of_mem _ hy)];rw [List.map_cons,List.map_cons,List.sum_cons,List.sum_cons];have hx:=h x List.mem_cons_self;unfold balStep;simp only;rw [hx];cases hb:x.1 <;> cases ho:out.testBit x.2.1 <;> simp [b12] <;> omega
theorem zvy {ws:List Nat}{q:ClaimA}{k:Known}{acc:List (Value×Nat)}(out:Nat)(T:Tells ws q k acc.length)(hv:∀ o∈acc,o.1≤3):
  settleA ws out (factsL acc) q=settleBy (acc.map (·.1)).toArray out k:=by
 unfold settleA settleBy;rw [T.known];cases hs:k.seen with
 | some b=>
  cases b <;> simp [seenN,b12]
 | none=>
  simp only [seenN,ne_eq,not_true_eq_false,if_false];have hmade:(goingA (factsL acc) q).map (·.made)=(k.rules.filter fun x=>holdsL acc x.2).map fun x=>b12 x.1:=by
   have h1:(goingA (factsL acc) q).map (·.made)=((q.rules.map fun r=>(r.made,r.need)).filter fun x=>holdsN (factsL acc) x.2).map (·.1):=by
    unfold goingA;rw [List.filter_map,List.map_map];rfl
   rw [h1,T.rules,List.filter_map,List.map_map];have:(k.rules.filter ((fun x:Nat×Nat=>holdsN (factsL acc) x.2) ∘ fun x:Bool×Conds=>(b12 x.1,needN x.2)))=k.rules.filter fun x=>holdsL acc x.2:=by
    refine List.filter_congr fun x hx=>?_;exact zl5 hv (T.conds x hx)
   rw [this];rfl
  have hany:∀ b:Bool,(b12 b∈(goingA (factsL acc) q).map (·.made))↔((k.rules.any fun x=>(if b=true then x.1 else !x.1)&&soIn (acc.map (·.1)).toArray x.2)=true):=by
   intro b;rw [hmade,List.mem_map,List.any_eq_true];constructor
   ·rintro ⟨x,hx,e⟩;rw [List.mem_filter] at hx;refine ⟨x,hx.1,?_⟩;rw [zif,hx.2,Bool.and_true];cases b <;> cases h:x.1 <;> simp_all [b12]
   ·rintro ⟨x,hx,e⟩;rw [Bool.and_eq_true,zif] at e;refine ⟨x,List.mem_filter.mpr ⟨hx,e.2⟩,?_⟩;cases b <;> cases h:x.1 <;> simp_all [b12]
  have h1:=hany true;have h2:=hany false;simp only [if_true,Bool.false_eq_true,if_false] at h1 h2;have hm12:∀ z∈(goingA (factsL acc) q).map (·.made),z=1∨z=2:=by
   intro z hz;rw [hmade,List.mem_map] at hz;obtain ⟨x,_,rfl⟩:=hz;cases x.1 <;> simp [b12]
  have e1:b12 true=1:=rfl;have e2:b12 false=2:=rfl;rw [e1] at h1;rw [e2] at h2;unfold vRules;simp only;generalize (goingA (factsL acc) q).map (·.made)=made at h1 h2 hm12
  generalize (k.rules.any fun x=>x.1&&soIn (acc.map (·.1)).toArray x.2)=f at h1
  generalize (k.rules.any fun x=>!x.1&&soIn (acc.map (·.1)).toArray x.2)=a at h2
  cases made with
  | nil=>
   have hf:f=false:=by cases f with | false=>rfl | true=>exact absurd (h1.mpr rfl) (by simp)
   have ha:a=false:=by cases a with | false=>rfl | true=>exact absurd (h2.mpr rfl) (by simp)
   subst hf ha;simp only [List.not_mem_nil,false_and,if_false,List.headD_nil,not_true_eq_false,Bool.false_eq_true,or_self];have hb:balance ws out q=(weighs k out true:Int) - (weighs k out false:Int):=by
    unfold balance weighs;rw [T.words,zn2 ws out k.words 0 T.weights];omega
   unfold vWit;rw [hb];congr 1
   by_cases c1:weighs k out false<weighs k out true
   ·rw [if_neg (by omega),if_pos (by omega),if_pos c1]
   ·by_cases c2:weighs k out true<weighs k out false
    ·rw [if_neg (by omega),if_neg (by omega),if_neg c1,if_pos c2]
    ·rw [if_pos (by omega),if_neg c1,if_neg c2]
  | cons z r=>
   have hz:=hm12 z List.mem_cons_self;have hor:f=true∨a=true:=by
    rcases hz with rfl | rfl
    ·exact .inl (h1.mp List.mem_cons_self)
    ·exact .inr (h2.mp List.mem_cons_self)
   have hne:∀ y:Nat,((if 1∈z::r∧2∈z::r then 3 else (z::r).headD 0)=y→y≠0):=by
    intro y e;subst e;split
    ·simp
    ·rcases hz with rfl | rfl <;> simp
   rw [if_pos (hne _ rfl),if_pos hor];congr 1
   by_cases c1:1∈z::r <;> by_cases c2:2∈z::r
   ·rw [if_pos ⟨c1,c2⟩,h1.mp c1,h2.mp c2];rfl
   ·rw [if_neg (fun e=>c2 e.2)];have hf:=h1.mp c1;have ha:a=false:=by cases a with | false=>rfl | true=>exact absurd (h2.mpr rfl) c2
    rw [hf,ha];rcases hz with rfl | rfl
    ·rfl
    ·exact absurd List.mem_cons_self c2
   ·rw [if_neg (fun e=>c1 e.1)];have ha:=h2.mp c2;have hf:f=false:=by cases f with | false=>rfl | true=>exact absurd (h1.mpr rfl) c1
    rw [hf,ha];rcases hz with rfl | rfl
    ·exact absurd List.mem_cons_self c1
    ·rfl
   ·rcases hz with rfl | rfl
    ·exact absurd List.mem_cons_self c1
    ·exact absurd List.mem_cons_self c2
end
section
open RgCase
structure BoatA where
 pens:List (Nat×Nat)
 reds:List Nat
structure Abs where
 lines:Nat
 nums:List Name
 claims:List ClaimA
 wits:List Name
 weights:List Nat
 bnames:List Name
 boats:List BoatA
def rulesN (ns:List Name)(c:List (Line×Nat))(n:Name):List (Nat×Bool×Conds):=c.filterMap fun (x:Line×Nat)=>match x.1 with
 | .rule f m cs=>if m=n then some (x.2,f,numbered ns cs) else none
 | _=>none
def claimA (c:Case)(n:Name):ClaimA:=⟨seenN (seenOf c n),(knownN c n).words.map fun x=>(x.2.1,b12 x.1),(rulesN (RgCase.claims c) c.zipIdx n).map fun x=>⟨x.1,b12 x.2.1,needN x.2.2⟩⟩
def boatName:Line→List Name
 | .penalty b _ _=>[b]
 | .redress b _=>[b]
 | _=>[]
def boatNames (c:Case):List Name:=(c.flatMap boatName).foldl addName []
def pensN (ns:List Name)(c:Case)(b:Name):List (Nat×Nat):=c.filterMap fun (l:Line)=>match l with
 | .penalty a n cs=>if a=b then some (n,needN (numbered ns cs)) else none
 | _=>none
def redsN (ns:List Name)(c:Case)(b:Name):List Nat:=c.filterMap fun (l:Line)=>match l with
 | .redress a cs=>if a=b then some (needN (numbered ns cs)) else none
 | _=>none
def boatA (c:Case)(b:Name):BoatA:=⟨pensN (RgCase.claims c) c b,redsN (RgCase.claims c) c b⟩
def absOf (c:Case):Abs:=⟨c.length,RgCase.claims c,(RgCase.claims c).map (claimA c),witnesses c,weights c,boatNames c,(boatNames c).map (boatA c)⟩
def addWit (A:Abs)(w:Name)(k:Nat):Abs:=if w∈A.wits then A else {A with wits:=A.wits++[w],weights:=A.weights++[k]}
def addBoat (A:Abs)(b:Name):Abs:=if b∈A.bnames then A else {A with bnames:=A.bnames++[b],boats:=A.boats++[⟨[],[]⟩]}
def onClaim (A:Abs)(n:Name)(f:ClaimA→ClaimA):Abs:={A with claims:=A.claims.modify (A.nums.idxOf n) f}
def onBoat (A:Abs)(b:Name)(f:BoatA→BoatA):Abs:={A with boats:=A.boats.modify (A.bnames.idxOf b) f}
def enterB (A:Abs):Line→Abs
 | .claim n=>{A with nums:=A.nums++[n],claims:=A.claims++[⟨0,[],[]⟩]}
 | .weight w k=>addWit A w k
 | .word s w n=>onClaim (addWit A w 1) n fun q=>{q with words:=q.words++[((addWit A w 1).wits.idxOf w,b12 s)]}
 | .seen s n=>onClaim A n fun q=>{q with known:=b12 s}
 | .rule f n cs=>onClaim A n fun q=>{q with rules:=q.rules++[⟨A.lines,b12 f,needN (numbered A.nums cs)⟩]}
 | .penalty b k cs=>onBoat (addBoat A b) b fun q=>{q with pens:=q.pens++[(k,needN (numbered A.nums cs))]}
 | .redress b cs=>onBoat (addBoat A b) b fun q=>{q with reds:=q.reds++[needN (numbered A.nums cs)]}
def enterA (A:Abs)(l:Line):Abs:={enterB A l with lines:=A.lines+1}
theorem zhm {α β:Type}[BEq α][LawfulBEq α]{f g:α→β}{h:β→β}:∀ {ns:List α} {n:α},ns.Nodup→n∈ns→(∀ m∈ns,m≠n→g m=f m)→g n=h (f n)→ns.map g=(ns.map f).modify (ns.idxOf n) h
 | [],n,_,hn,_,_=>by cases hn
 | a::r,n,hd,hn,ho,hh=>by
  rw [List.nodup_cons] at hd;by_cases e:a=n
  ·subst e;rw [List.idxOf_cons_self,List.map_cons,List.map_cons,List.modify_zero_cons,hh];congr 1
   refine List.map_congr_left fun m hm=>ho m (List.mem_cons_of_mem _ hm) fun z=>hd.1 (z▸hm)
  ·have hn':n∈r:=(List.mem_cons.mp hn).resolve_left fun z=>e z.symm;rw [List.idxOf_cons,beq_eq_false_iff_ne.mpr e,cond_false,List.map_cons,List.map_cons,List.modify_succ_cons,ho a List.mem_cons_self e];congr 1
   exact zhm hd.2 hn' (fun m hm=>ho m (List.mem_cons_of_mem _ hm)) hh
theorem zoo {ns t:List Name}{c:List (Line×Nat)}(h:∀ l∈c,∀ m∈l.1.claims,m∈ns)(n:Name):rulesN (ns++t) c n=rulesN ns c n:=by
 unfold rulesN;refine filterMap_congr' fun l hl=>?_;have hh:=h l hl;obtain ⟨l,i⟩:=l;cases l with
 | rule f m cs=>
  show (if m=n then some (i,f,numbered (ns++t) cs) else none)=if m=n then some (i,f,numbered ns cs) else none
  rw [zbq fun x hx=>hh _ (by simp only [Line.claims];exact List.mem_cons_of_mem _ (List.mem_map.mpr ⟨x,hx,rfl⟩))]
 | _=>rfl
theorem ztu {c:Case}{k:Nat}{x:Line×Nat}(h:x∈c.zipIdx k):x.1∈c:=by
 have:=List.mem_zipIdx h;rw [this.2.2];exact List.getElem_mem _
theorem zte {c:Case}{l:Line}(v:Valid c)(hw:wrongOf c l=0)(n:Name):rulesN (RgCase.claims (c++[l])) (c++[l]).zipIdx n=rulesN (RgCase.claims c) c.zipIdx n++(match l with
 | .rule f m cs=>if m=n then [(c.length,f,numbered (RgCase.claims c) cs)] else []
 | _=>[]):=by
 have e0:rulesN (RgCase.claims (c++[l])) (c++[l]).zipIdx n=rulesN (RgCase.claims (c++[l])) c.zipIdx n++rulesN (RgCase.claims (c++[l])) [(l,c.length)] n:=by
  unfold rulesN;rw [List.zipIdx_append,List.filterMap_append];simp
 rw [e0,zbu,zoo fun x hx m hm=>zbr v x.1 (ztu hx) m hm];congr 1
 cases l with
 | rule f m cs=>
  have q:=zit (zb2 hw).1 (newClaim (.rule f m cs));unfold rulesN;by_cases e:m=n
  ·subst e;simp [q]
  ·simp [e]
 | _=>rfl
theorem ztj {ns t:List Name}{c:Case}(h:∀ l∈c,∀ m∈l.claims,m∈ns)(b:Name):pensN (ns++t) c b=pensN ns c b∧redsN (ns++t) c b=redsN ns c b:=by
 constructor
 ·unfold pensN;refine filterMap_congr' fun l hl=>?_;cases l with
  | penalty a n cs=>
   show (if a=b then some (n,needN (numbered (ns++t) cs)) else none)=if a=b then some (n,needN (numbered ns cs)) else none
   rw [zbq fun x hx=>h _ hl _ (by simp only [Line.claims];exact List.mem_map.mpr ⟨x,hx,rfl⟩)]
  | _=>rfl
 ·unfold redsN;refine filterMap_congr' fun l hl=>?_;cases l with
  | redress a cs=>
   show (if a=b then some (needN (numbered (ns++t) cs)) else none)=if a=b then some (needN (numbered ns cs)) else none
   rw [zbq fun x hx=>h _ hl _ (by simp only [Line.claims];exact List.mem_map.mpr ⟨x,hx,rfl⟩)]
  | _=>rfl
def boatStep (c:Case)(b:Name):Line→BoatA
 | .penalty a n cs=>if a=b then ⟨(boatA c b).pens++[(n,needN (numbered (RgCase.claims c) cs))],(boatA c b).reds⟩ else boatA c b
 | .redress a cs=>if a=b then ⟨(boatA c b).pens,(boatA c b).reds++[needN (numbered (RgCase.claims c) cs)]⟩ else boatA c b
 | _=>boatA c b
theorem pens_snoc {c:Case}{l:Line}(v:Valid c)(hw:wrongOf c l=0)(b:Name):boatA (c++[l]) b=boatStep c b l:=by
 obtain ⟨h1,h2⟩:=ztj (t:=newClaim l) (fun k hk m hm=>zbr v k hk m hm) b;have hst:=za3 (zb2 hw).1;have hb0:boatA c b=⟨pensN (RgCase.claims c) c b,redsN (RgCase.claims c) c b⟩:=rfl;unfold boatStep;rw [hb0];show BoatA.mk _ _=_;rw [zbu];have e1:pensN (RgCase.claims c++newClaim l) (c++[l]) b=pensN (RgCase.claims c) c b++pensN (RgCase.claims c++newClaim l) [l] b:=by
  rw [←h1];unfold pensN;rw [List.filterMap_append]
 have e2:redsN (RgCase.claims c++newClaim l) (c++[l]) b=redsN (RgCase.claims c) c b++redsN (RgCase.claims c++newClaim l) [l] b:=by
  rw [←h2];unfold redsN;rw [List.filterMap_append]
 rw [e1,e2];have nn:∀ cs:List Cond,(∀ x∈cs,x.claim∈RgCase.claims c)→numbered (RgCase.claims c++newClaim l) cs=numbered (RgCase.claims c) cs:=fun cs h=>zbq h;cases l with
 | penalty a n cs=>
  have:=nn cs fun x hx=>hst _ (by simp only [Line.claims];exact List.mem_map.mpr ⟨x,hx,rfl⟩)
  by_cases e:a=b
  ·subst e;simp [pensN,redsN,this]
  ·simp [pensN,redsN,e]
 | redress a cs=>
  have:=nn cs fun x hx=>hst _ (by simp only [Line.claims];exact List.mem_map.mpr ⟨x,hx,rfl⟩)
  by_cases e:a=b
  ·subst e;simp [pensN,redsN,this]
  ·simp [pensN,redsN,e]
 | _=>simp [pensN,redsN]
theorem zm5 (c:Case)(l:Line):boatNames (c++[l])=(boatName l).foldl addName (boatNames c):=by
 unfold boatNames;rw [List.flatMap_append,List.foldl_append];simp
theorem zmc (c:Case):(boatNames c).Nodup:=zel (ws:=c.flatMap boatName) (s:=[]) List.nodup_nil
theorem zpe {c:Case}{b:Name}:b∈boatNames c↔∃ l∈c,b∈boatName l:=by
 unfold boatNames;rw [zde,List.mem_flatMap];simp
theorem zn1 {c:Case}{b:Name}(h:b∉boatNames c):boatA c b=⟨[],[]⟩:=by
 have h':∀ l∈c,b∉boatName l:=fun l hl z=>h (zpe.mpr ⟨l,hl,z⟩);unfold boatA;have e1:pensN (RgCase.claims c) c b=[]:=by
  unfold pensN;rw [List.filterMap_eq_nil_iff];intro l hl;have:=h' l hl;cases l with
  | penalty a n cs=>
   have:a≠b:=fun e=>this (by simp [boatName,e])
   simp [this]
  | _=>rfl
 have e2:redsN (RgCase.claims c) c b=[]:=by
  unfold redsN;rw [List.filterMap_eq_nil_iff];intro l hl;have:=h' l hl;cases l with
  | redress a cs=>
   have:a≠b:=fun e=>this (by simp [boatName,e])
   simp [this]
  | _=>rfl
 rw [e1,e2]
def claimStep (c:Case)(n:Name):Line→ClaimA
 | .word s w m=>if m=n then {claimA c n with words:=(claimA c n).words++[((witnesses (c++[.word s w m])).idxOf w,b12 s)]} else claimA c n
 | .seen s m=>if m=n then {claimA c n with known:=b12 s} else claimA c n
 | .rule f m cs=>if m=n then {claimA c n with rules:=(claimA c n).rules++[⟨c.length,b12 f,needN (numbered (RgCase.claims c) cs)⟩]} else claimA c n
 | _=>claimA c n
theorem zuf {c:Case}{l:Line}(v:Valid c)(hw:wrongOf c l=0)(n:Name):claimA (c++[l]) n=claimStep c n l:=by
 have hk:=known_old v hw n;have hs:seenOf (c++[l]) n=(knownN (c++[l]) n).seen:=rfl;have hs0:seenOf c n=(knownN c n).seen:=rfl;have hc0:claimA c n=⟨seenN (knownN c n).seen,(knownN c n).words.map fun x=>(x.2.1,b12 x.1),(rulesN (RgCase.claims c) c.zipIdx n).map fun x=>⟨x.1,b12 x.2.1,needN x.2.2⟩⟩:=rfl;unfold claimStep;rw [hc0];show ClaimA.mk _ _ _=_;rw [zte v hw,hs,hk];cases l with
 | word s w m=>
  by_cases e:m=n
  ·simp [addK,e,hs0]
  ·simp [addK,e,hs0]
 | seen s m=>
  by_cases e:m=n
  ·simp [addK,e,hs0,seenN]
  ·simp [addK,e,hs0]
 | rule f m cs=>
  by_cases e:m=n
  ·simp [addK,e,hs0]
  ·simp [addK,e,hs0]
 | _=>simp [addK,hs0]
theorem zw5 {c:Case}{n:Name}(v:Valid c)(h:n∉RgCase.claims c):claimA c n=⟨0,[],[]⟩:=by
 have hk:=zwk v h;have hs:seenOf c n=(knownN c n).seen:=rfl;unfold claimA;rw [hs,hk];have e2:rulesN (RgCase.claims c) c.zipIdx n=[]:=by
  unfold rulesN;rw [List.filterMap_eq_nil_iff];intro x hx;have hm:=zbr v x.1 (ztu hx);obtain ⟨l,i⟩:=x;cases l with
  | rule f m cs=>
   have:m≠n:=fun e=>h (e▸hm m (by simp [Line.claims]))
   simp [this]
  | _=>rfl
 rw [e2];rfl
theorem zhh {A B:Abs}(h1:A.lines=B.lines)(h2:A.nums=B.nums)(h3:A.claims=B.claims)(h4:A.wits=B.wits)(h5:A.weights=B.weights)(h6:A.bnames=B.bnames)(h7:A.boats=B.boats):A=B:=by
 cases A;cases B;simp_all
theorem zdg (A:Abs)(w:Name)(k:Nat):(addWit A w k).lines=A.lines∧(addWit A w k).nums=A.nums∧(addWit A w k).claims=A.claims∧(addWit A w k).bnames=A.bnames∧(addWit A w k).boats=A.boats:=by
 unfold addWit;split <;> exact ⟨rfl,rfl,rfl,rfl,rfl⟩
theorem zdv (A:Abs)(b:Name):(addBoat A b).lines=A.lines∧(addBoat A b).nums=A.nums∧(addBoat A b).claims=A.claims∧(addBoat A b).wits=A.wits∧(addBoat A b).weights=A.weights:=by
 unfold addBoat;split <;> exact ⟨rfl,rfl,rfl,rfl,rfl⟩
theorem zxc {c:Case}{l:Line}(v:Valid c)(hw:wrongOf c l=0):absOf (c++[l])=enterA (absOf c) l:=by
 obtain ⟨hst,hcl,_⟩:=zb2 hw;have hnd:=zkc v;have hlen:(c++[l]).length=c.length+1:=by simp
 have hwit:=zdh c l;have hwt:=zqe hw;have hbn:=zm5 c l;have hcs:=zbu c l;have hca:=zuf v hw;have hba:=pens_snoc v hw;have hW:∀ w k,newNamed l=[w]→lineWeight l=k→witnesses (c++[l])=(addWit (absOf c) w k).wits∧weights (c++[l])=(addWit (absOf c) w k).weights:=by
  intro w k h1 h2;rw [hwit,hwt,h1,List.foldl_cons,List.foldl_nil];unfold addWit addName;have hq:(absOf c).wits=witnesses c:=rfl;rw [hq];by_cases q:w∈witnesses c
  ·simp only [if_pos q,if_pos (List.contains_iff_mem.mpr q),List.append_nil];exact ⟨rfl,rfl⟩
  ·simp only [if_neg q];rw [if_neg (fun z=>q (List.contains_iff_mem.mp z)),h2];exact ⟨rfl,rfl⟩
 have hW0:newNamed l=[]→witnesses (c++[l])=witnesses c∧weights (c++[l])=weights c:=by
  intro h;rw [hwit,hwt,h];exact ⟨rfl,List.append_nil _⟩
 have hB:∀ b f,boatName l=[b]→(∀ x,boatA (c++[l]) x=if b=x then f (boatA c x) else boatA c x)→
   (boatNames (c++[l]))=(addBoat (absOf c) b).bnames∧(boatNames (c++[l])).map (boatA (c++[l]))=(onBoat (addBoat (absOf c) b) b f).boats:=by
  intro b f h1 hx;have hnb:=zmc c;rw [hbn,h1,List.foldl_cons,List.foldl_nil];unfold onBoat addBoat addName;have hq:(absOf c).bnames=boatNames c:=rfl;have hq2:(absOf c).boats=(boatNames c).map (boatA c):=rfl;rw [hq];by_cases q:b∈boatNames c
  ·simp only [if_pos q,if_pos (List.contains_iff_mem.mpr q)];refine ⟨rfl,?_⟩;rw [hq2,hq];refine zhm hnb q (fun m _ hm=>?_) ?_
   ·rw [hx,if_neg (Ne.symm hm)]
   ·rw [hx,if_pos rfl]
  ·simp only [if_neg q];rw [if_neg (fun z=>q (List.contains_iff_mem.mp z))];refine ⟨rfl,?_⟩;have e:(absOf c).boats++[(⟨[],[]⟩:BoatA)]=(boatNames c++[b]).map (boatA c):=by
    rw [List.map_append,List.map_cons,List.map_nil,zn1 q];rfl
   rw [e];refine zhm ?_ (by simp) (fun m _ hm=>?_) ?_
   ·rw [List.nodup_append];refine ⟨hnb,by simp,fun x hx' y hy e=>?_⟩
    rw [List.mem_singleton.mp hy] at e;exact q (e▸hx')
   ·rw [hx,if_neg (Ne.symm hm)]
   ·rw [hx,if_pos rfl]
 have hB0:(∀ x,boatA (c++[l]) x=boatA c x)→boatName l=[]→boatNames (c++[l])=boatNames c∧(boatNames (c++[l])).map (boatA (c++[l]))=(boatNames c).map (boatA c):=by
  intro hx h;have e:boatNames (c++[l])=boatNames c:=by rw [hbn,h];rfl
  rw [e];exact ⟨rfl,List.map_congr_left fun n _=>hx n⟩
 have hC0:newClaim l=[]→(∀ n,claimA (c++[l]) n=claimA c n)→RgCase.claims (c++[l])=RgCase.claims c∧(RgCase.claims (c++[l])).map (claimA (c++[l]))=(RgCase.claims c).map (claimA c):=by
  intro h hx;rw [hcs,h,List.append_nil];exact ⟨rfl,List.map_congr_left fun n _=>hx n⟩
 have hC:∀ n f,newClaim l=[]→n∈RgCase.claims c→(∀ x,claimA (c++[l]) x=if n=x then f (claimA c x) else claimA c x)→RgCase.claims (c++[l])=RgCase.claims c∧(RgCase.claims (c++[l])).map (claimA (c++[l]))=((RgCase.claims c).map (claimA c)).modify ((RgCase.claims c).idxOf n) f:=by
  intro n f h hn hx;rw [hcs,h,List.append_nil];refine ⟨rfl,zhm hnd hn (fun m _ hm=>?_) ?_⟩
  ·rw [hx,if_neg (Ne.symm hm)]
  ·rw [hx,if_pos rfl]
 cases l with
 | claim n=>
  obtain ⟨w1,w2⟩:=hW0 rfl;obtain ⟨b1,b2⟩:=hB0 hba rfl;have hn:n∉RgCase.claims c:=fun z=>by
   have h2:(RgCase.claims c).contains n=false:=hcl;rw [List.contains_iff_mem.mpr z] at h2;cases h2
  have c2:(RgCase.claims (c++[Line.claim n])).map (claimA (c++[Line.claim n]))=(RgCase.claims c).map (claimA c)++[⟨0,[],[]⟩]:=by
   rw [hcs];show (RgCase.claims c++[n]).map _=_;rw [List.map_append,List.map_cons,List.map_nil,hca n];show _++[claimA c n]=_;rw [zw5 v hn];congr 1
   exact List.map_congr_left fun m _=>hca m
  exact zhh hlen hcs c2 w1 w2 b1 b2
 | weight w k=>
  obtain ⟨w1,w2⟩:=hW w k rfl rfl;obtain ⟨b1,b2⟩:=hB0 hba rfl;obtain ⟨c1,c2⟩:=hC0 rfl hca;obtain ⟨r1,r2,r3,r4,r5⟩:=zdg (absOf c) w k;exact zhh hlen (c1.trans r2.symm) (c2.trans r3.symm) w1 w2 (b1.trans r4.symm) (b2.trans r5.symm)
 | word s w n=>
  obtain ⟨w1,w2⟩:=hW w 1 rfl rfl;obtain ⟨b1,b2⟩:=hB0 hba rfl;have hn:n∈RgCase.claims c:=za3 hst n (by simp [Line.claims])
  obtain ⟨c1,c2⟩:=hC n (fun q=>{q with words:=q.words++[((witnesses (c++[Line.word s w n])).idxOf w,b12 s)]}) rfl hn hca;obtain ⟨r1,r2,r3,r4,r5⟩:=zdg (absOf c) w 1;refine zhh hlen (c1.trans r2.symm) ?_ w1 w2 (b1.trans r4.symm) (b2.trans r5.symm);refine c2.trans ?_;show _=(addWit (absOf c) w 1).claims.modify ((addWit (absOf c) w 1).nums.idxOf n) _;rw [r2,r3,←w1];rfl
 | seen s n=>
  obtain ⟨w1,w2⟩:=hW0 rfl;obtain ⟨b1,b2⟩:=hB0 hba rfl;have hn:n∈RgCase.claims c:=za3 hst n (by simp [Line.claims])
  obtain ⟨c1,c2⟩:=hC n (fun q=>{q with known:=b12 s}) rfl hn hca;exact zhh hlen c1 c2 w1 w2 b1 b2
 | rule f n cs=>
  obtain ⟨w1,w2⟩:=hW0 rfl;obtain ⟨b1,b2⟩:=hB0 hba rfl;have hn:n∈RgCase.claims c:=za3 hst n (by simp [Line.claims])
  obtain ⟨c1,c2⟩:=hC n (fun q=>{q with rules:=q.rules++[⟨c.length,b12 f,needN (numbered (RgCase.claims c) cs)⟩]}) rfl hn hca;exact zhh hlen c1 c2 w1 w2 b1 b2
 | penalty b k cs=>
  obtain ⟨w1,w2⟩:=hW0 rfl;obtain ⟨c1,c2⟩:=hC0 rfl hca;obtain ⟨b1,b2⟩:=hB b (fun q=>{q with pens:=q.pens++[(k,needN (numbered (RgCase.claims c) cs))]}) rfl hba;obtain ⟨r1,r2,r3,r4,r5⟩:=zdv (absOf c) b;exact zhh hlen (c1.trans r2.symm) (c2.trans r3.symm) (w1.trans r4.symm) (w2.trans r5.symm) b1 b2
 | redress b cs=>
  obtain ⟨w1,w2⟩:=hW0 rfl;obtain ⟨c1,c2⟩:=hC0 rfl hca;obtain ⟨b1,b2⟩:=hB b (fun q=>{q with reds:=q.reds++[needN (numbered (RgCase.claims c) cs)]}) rfl hba;obtain ⟨r1,r2,r3,r4,r5⟩:=zdv (absOf c) b;exact zhh hlen (c1.trans r2.symm) (c2.trans r3.symm) (w1.trans r4.symm) (w2.trans r5.symm) b1 b2
end
section
open RgCase
def valR:List Nat→Nat
 | []=>0
 | k::r=>2^(7 - k)+valR r
def Inc:Nat→List Nat→Prop
 | _,[]=>True
 | lo,k::r=>lo≤k∧k<8∧Inc (k+1) r
theorem zsw:∀ {l:List Nat} {lo:Nat},Inc lo l→lo≤8→valR l<2^(8 - lo)
 | [],lo,_,_=>Nat.pow_pos (by omega)
 | k::r,lo,h,_=>by
  obtain ⟨h1,h2,h3⟩:=h;have ih:=zsw h3 (by omega)
  have e1:8 - (k+1)=7 - k:=by omega
  rw [e1] at ih;have e2:8 - k=(7 - k)+1:=by omega
  have e3:2^(8 - k)=2^(7 - k)+2^(7 - k):=by rw [e2,Nat.pow_succ];omega
  have e4:2^(8 - k)≤2^(8 - lo):=Nat.pow_le_pow_right (by omega) (by omega)
  show 2^(7 - k)+valR r<2^(8 - lo);omega
theorem zk3 {x y:Nat}{r s:List Nat}{lo:Nat}(hl:Inc lo (x::r))(hm:Inc lo (y::s))(h:x<y):valR (y::s)<valR (x::r):=by
 have e1:valR (y::s)<2^(8 - y):=zsw (l:=y::s) (lo:=y) ⟨Nat.le_refl _,hm.2.1,hm.2.2⟩ (by have:=hm.2.1;omega)
 have e2:2^(8 - y)≤2^(7 - x):=Nat.pow_le_pow_right (by omega) (by omega)
 show valR (y::s)<2^(7 - x)+valR r;omega
theorem ztg:∀ {l m:List Nat} {lo:Nat},Inc lo l→Inc lo m→l.length=m.length→(rowBefore l m=true↔valR m<valR l)
 | [],[],_,_,_,_=>by simp [rowBefore,valR]
 | [],_::_,_,_,_,h=>by simp at h
 | _::_,[],_,_,_,h=>by simp at h
 | x::r,y::s,lo,hl,hm,h=>by
  have hlen:r.length=s.length:=by simpa using h
  unfold rowBefore;rw [Bool.or_eq_true,decide_eq_true_iff,Bool.and_eq_true,beq_iff_eq];rcases Nat.lt_trichotomy x y with q | q | q
  ·exact ⟨fun _=>zk3 hl hm q,fun _=>.inl q⟩
  ·subst q;have ih:=ztg hl.2.2 hm.2.2 hlen;constructor
   ·rintro (z | ⟨_,z⟩)
    ·omega
    ·have:=ih.mp z;show 2^(7 - x)+valR s<2^(7 - x)+valR r;omega
   ·intro z;refine .inr ⟨rfl,ih.mpr ?_⟩;have z':2^(7 - x)+valR s<2^(7 - x)+valR r:=z;omega
  ·have:=zk3 hm hl q;exact ⟨fun z=>by rcases z with z | z <;> omega,fun z=>by omega⟩
theorem zxh:∀ {l m:List Nat} {lo:Nat},Inc lo l→Inc lo m→valR l=valR m→l=m
 | [],[],_,_,_,_=>rfl
 | [],y::s,_,_,_,h=>by
  have:0<2^(7 - y):=Nat.pow_pos (by omega)
  have h':0=2^(7 - y)+valR s:=h;omega
 | x::r,[],_,_,_,h=>by
  have:0<2^(7 - x):=Nat.pow_pos (by omega)
  have h':2^(7 - x)+valR r=0:=h;omega
 | x::r,y::s,lo,hl,hm,h=>by
  rcases Nat.lt_trichotomy x y with q | q | q
  ·have:=zk3 hl hm q;omega
  ·subst q;have h':2^(7 - x)+valR r=2^(7 - x)+valR s:=h;rw [zxh hl.2.2 hm.2.2 (by omega)]
  ·have:=zk3 hm hl q;omega
theorem inc_of:∀ {l:List Nat} {lo:Nat},l.Pairwise (· < ·)→(∀ x∈l,lo≤x∧x<8)→Inc lo l
 | [],_,_,_=>trivial
 | k::r,lo,hp,hb=>by
  obtain ⟨h1,h2⟩:=List.pairwise_cons.mp hp;exact ⟨(hb k List.mem_cons_self).1,(hb k List.mem_cons_self).2,inc_of h2 fun x hx=>⟨h1 x hx,(hb x (List.mem_cons_of_mem _ hx)).2⟩⟩
theorem zf7 (b:Nat):Inc 0 (numbersIn b):=by
 unfold numbersIn;refine inc_of (List.Pairwise.filter _ List.pairwise_lt_range) fun x hx=>⟨Nat.zero_le _,?_⟩;simpa using (List.mem_filter.mp hx).1
theorem bits_inj {a b:Nat}(ha:a<256)(hb:b<256)(h:numbersIn a=numbersIn b):a=b:=by
 refine Nat.eq_of_testBit_eq fun i=>?_;by_cases hi:i<8
 ·have key:∀ c:Nat,(i∈numbersIn c)↔c.testBit i=true:=fun c=>by
   unfold numbersIn;rw [List.mem_filter,List.mem_range];exact ⟨fun z=>z.2,fun z=>⟨hi,z⟩⟩
  have k1:=key a;rw [h,key b] at k1;cases e:a.testBit i with
  | true=>exact (k1.mpr e).symm
  | false=>
   cases e2:b.testBit i with
   | false=>rfl
   | true=>
    rw [k1.mp e2] at e;cases e
 ·have p:(2:Nat)^8≤2^i:=Nat.pow_le_pow_right (by omega) (by omega)
  rw [Nat.testBit_lt_two_pow (Nat.lt_of_lt_of_le ha p),Nat.testBit_lt_two_pow (Nat.lt_of_lt_of_le hb p)]
def setKey (b:Nat):Nat:=(numbersIn b).length*256+(255 - valR (numbersIn b))
theorem zoa (b:Nat):valR (numbersIn b)≤255:=by
 have:=zsw (zf7 b) (by omega)
 omega
theorem zhu {a b:Nat}:setBefore a b=true↔setKey a<setKey b:=by
 unfold setBefore setKey;rw [Bool.or_eq_true,decide_eq_true_iff,Bool.and_eq_true,beq_iff_eq];have h1:=zoa a;have h2:=zoa b;constructor
 ·rintro (z | ⟨z1,z2⟩)
  ·omega
  ·have:=(ztg (zf7 a) (zf7 b) z1).mp z2;omega
 ·intro z;by_cases e:(numbersIn a).length=(numbersIn b).length
  ·exact .inr ⟨e,(ztg (zf7 a) (zf7 b) e).mpr (by omega)⟩
  ·exact .inl (by omega)
theorem key_inj {a b:Nat}(ha:a<256)(hb:b<256)(h:setKey a=setKey b):a=b:=by
 unfold setKey at h;have h1:=zoa a;have h2:=zoa b;exact bits_inj ha hb (zxh (zf7 a) (zf7 b) (by omega))
def pick (P:Nat→Prop)[DecidablePred P](o:Option Nat)(b:Nat):Option Nat:=if P b then o else match o with
 | none=>some b
 | some a=>if setBefore b a=true then some b else some a
theorem zlc (ks:List Known)(n i:Nat):turnBy ks n i=(List.range (2^n)).foldl (pick fun b=>(settledOf (ks.take (i+1)) b).1.getD i 3=(settledOf (ks.take (i+1)) 0).1.getD i 3) none:=rfl
structure Picked (P:Nat→Prop)(l:List Nat)(o:Option Nat):Prop where
 none_:o=none→∀ b∈l,P b
 some_:∀ a,o=some a→a∈l∧¬ P a∧∀ b∈l,¬ P b→setKey a≤setKey b
theorem pick_step {P:Nat→Prop}[DecidablePred P]{l:List Nat}{o:Option Nat}{b:Nat}(h:Picked P l o):Picked P (l++[b]) (pick P o b):=by
 unfold pick;by_cases hp:P b
 ·rw [if_pos hp];refine ⟨fun e x hx=>?_,fun a e=>?_⟩
  ·rcases List.mem_append.mp hx with hx | hx
   ·exact h.none_ e x hx
   ·rcases List.mem_singleton.mp hx with rfl;exact hp
  ·obtain ⟨h1,h2,h3⟩:=h.some_ a e;refine ⟨List.mem_append_left _ h1,h2,fun x hx hn=>?_⟩;rcases List.mem_append.mp hx with hx | hx
   ·exact h3 x hx hn
   ·rcases List.mem_singleton.mp hx with rfl;exact absurd hp hn
 ·rw [if_neg hp];cases o with
  | none=>
   refine ⟨fun e=>(by cases e),fun a e=>?_⟩
   cases e;refine ⟨by simp,hp,fun x hx hn=>?_⟩
   rcases List.mem_append.mp hx with hx | hx
   ·exact absurd (h.none_ rfl x hx) hn
   ·rcases List.mem_singleton.mp hx with rfl;exact Nat.le_refl _
  | some a=>
   obtain ⟨h1,h2,h3⟩:=h.some_ a rfl;show Picked P (l++[b]) (if setBefore b a=true then some b else some a)
   by_cases hk:setBefore b a=true
   ·rw [if_pos hk];have hk':=zhu.mp hk;refine ⟨fun e=>(by cases e),fun c e=>?_⟩
    cases e;refine ⟨by simp,hp,fun x hx hn=>?_⟩
    rcases List.mem_append.mp hx with hx | hx
    ·exact Nat.le_trans (Nat.le_of_lt hk') (h3 x hx hn)
    ·rcases List.mem_singleton.mp hx with rfl;exact Nat.le_refl _
   ·rw [if_neg hk];have hk':setKey a≤setKey b:=Nat.le_of_not_lt fun z=>hk (zhu.mpr z);refine ⟨fun e=>(by cases e),fun c e=>?_⟩
    cases e;refine ⟨List.mem_append_left _ h1,h2,fun x hx hn=>?_⟩;rcases List.mem_append.mp hx with hx | hx
    ·exact h3 x hx hn
    ·rcases List.mem_singleton.mp hx with rfl;exact hk'
theorem zq9 {P:Nat→Prop}[DecidablePred P]:∀ (r l:List Nat) (o:Option Nat),Picked P l o→Picked P (l++r) (r.foldl (pick P) o)
 | [],l,o,h=>by simpa using h
 | b::r,l,o,h=>by
  have:=zq9 r (l++[b]) (pick P o b) (pick_step h);simpa using this
theorem zj3 {P:Nat→Prop}[DecidablePred P]{n:Nat}:Picked P (List.range (2^n)) ((List.range (2^n)).foldl (pick P) none):=by
 have:=zq9 (P:=P) (List.range (2^n)) [] none ⟨fun _ b hb=>(by cases hb),fun a e=>(by cases e)⟩
 simpa using this
theorem zsx {ks:List Known}{n i a:Nat}(hn:n≤8)(ha:a<2^n)(hd:(settledOf (ks.take (i+1)) a).1.getD i 3≠(settledOf (ks.take (i+1)) 0).1.getD i 3)(hm:∀ b,b<2^n→(settledOf (ks.take (i+1)) b).1.getD i 3≠(settledOf (ks.take (i+1)) 0).1.getD i 3→setKey a≤setKey b):turnBy ks n i=some a:=by
 have h:=zj3 (P:=fun b=>(settledOf (ks.take (i+1)) b).1.getD i 3=(settledOf (ks.take (i+1)) 0).1.getD i 3) (n:=n);rw [←zlc] at h;cases e:turnBy ks n i with
 | none=>exact absurd (h.none_ e a (by simpa using ha)) hd
 | some c=>
  obtain ⟨h1,h2,h3⟩:=h.some_ c e;have hc:c<2^n:=by simpa using h1
  have le1:=h3 a (by simpa using ha) hd
  have le2:=hm c hc h2;have p8:(2:Nat)^n≤2^8:=Nat.pow_le_pow_right (by omega) hn
  rw [key_inj (a:=c) (b:=a) (by omega) (by omega) (Nat.le_antisymm le1 le2)]
theorem zsy {ks:List Known}{n i:Nat}(hm:∀ b,b<2^n→(settledOf (ks.take (i+1)) b).1.getD i 3=(settledOf (ks.take (i+1)) 0).1.getD i 3):turnBy ks n i=none:=by
 have h:=zj3 (P:=fun b=>(settledOf (ks.take (i+1)) b).1.getD i 3=(settledOf (ks.take (i+1)) 0).1.getD i 3) (n:=n);rw [←zlc] at h;cases e:turnBy ks n i with
 | none=>rfl
 | some c=>
  obtain ⟨h1,h2,_⟩:=h.some_ c e;exact absurd (hm c (by simpa using h1)) h2
end
section
open RgCase
theorem zq1 (ns:List Name)(n:Name):∀ (c:Case) (k:Nat),rulesIn ns c n=(rulesN ns (c.zipIdx k) n).map (·.2)
 | [],k=>rfl
 | l::r,k=>by
  have ih:=zq1 ns n r (k+1);unfold rulesIn rulesN at ih ⊢;rw [List.zipIdx_cons,List.filterMap_cons,List.filterMap_cons,ih];cases l with
  | rule f m cs=>
   by_cases e:m=n
   ·simp [e]
   ·simp [e]
  | _=>rfl
theorem zwq {ns:List Name}(hd:ns.Nodup){n:Name}{i:Nat}(h:ns[i]? = some n):ns.idxOf n=i:=by
 obtain ⟨hi,e⟩:=List.getElem?_eq_some_iff.mp h;have hm:n∈ns:=e▸List.getElem_mem hi;have h1:=List.idxOf_lt_length_of_mem hm;have h2:=List.getElem_idxOf h1;exact (List.getElem_inj hd).mp (h2.trans e.symm)
def condsOf:Line→List Cond
 | .rule _ _ l=>l
 | .penalty _ _ l=>l
 | .redress _ l=>l
 | _=>[]
theorem zu3 {l:Line}(h:l.ok=true):∀ x∈condsOf l,x.value≤3:=by
 intro x hx;have key:∀ cs:List Cond,condsOk cs=true→x∈cs→x.value≤3:=by
  intro cs hc hm;unfold condsOk at hc;rw [Bool.and_eq_true,Bool.and_eq_true] at hc;have:=List.all_eq_true.mp hc.2.2 x hm;unfold Cond.ok at this;rw [Bool.and_eq_true,Bool.and_eq_true] at this;exact of_decide_eq_true this.2.2
 cases l with
 | rule f n cs=>
  simp only [Line.ok,Bool.and_eq_true] at h;exact key cs h.2 hx
 | penalty b k cs=>
  simp only [Line.ok,Bool.and_eq_true] at h;exact key cs h.2.2.2 hx
 | redress b cs=>
  simp only [Line.ok,Bool.and_eq_true] at h;exact key cs h.2 hx
 | _=>simp [condsOf] at hx
theorem zex {l:Line}:∀ x∈condsOf l,x.claim∈l.claims:=by
 intro x hx;cases l with
 | rule f n cs=>exact List.mem_cons_of_mem _ (List.mem_map.mpr ⟨x,hx,rfl⟩)
 | penalty b k cs=>exact List.mem_map.mpr ⟨x,hx,rfl⟩
 | redress b cs=>exact List.mem_map.mpr ⟨x,hx,rfl⟩
 | _=>simp [condsOf] at hx
theorem zn6 {c:Case}(v:Valid c):∀ l∈c,l.ok=true:=by
 induction v with
 | nil=>simp
 | @snoc c l v hl hw ih=>
  intro l' hl';rcases List.mem_append.mp hl' with h | h
  ·exact ih l' h
  ·rw [List.mem_singleton.mp h];exact hl
theorem zh4 {c:Case}(v:Valid c):∀ l∈c,∀ x∈condsOf l,x.value≤3∧(RgCase.claims c).idxOf x.claim<(RgCase.claims c).length:=fun l hl x hx=>
 ⟨zu3 (zn6 v l hl) x hx,List.idxOf_lt_length_of_mem (zbr v l hl _ (zex x hx))⟩
theorem zsv {c:Case}(v:Valid c):∀ f n cs,Line.rule f n cs∈c→∀ x∈cs,(RgCase.claims c).idxOf x.claim<(RgCase.claims c).idxOf n:=by
 induction v with
 | nil=>simp
 | @snoc c l v hl hw ih=>
  intro f n cs hm x hx;rw [zbu];rcases List.mem_append.mp hm with h | h
  ·have h1:=zbr v _ h n (by simp [Line.claims])
   have h2:=zbr v _ h x.claim (zex (l:=.rule f n cs) x hx);rw [zd5 h1,zd5 h2];exact ih f n cs h x hx
  ·have e:=List.mem_singleton.mp h;subst e;have hst:=(zb2 hw).1;have h1:=za3 hst n (by simp [Line.claims])
   have h2:=za3 hst x.claim (zex (l:=.rule f n cs) x hx);rw [zd5 h1,zd5 h2];unfold stands at hst;rw [Bool.and_eq_true] at hst;exact of_decide_eq_true (List.all_eq_true.mp hst.2 x hx)
theorem ztv {ns:List Name}{c:Case}{n:Name}{y:Bool×Conds}(h:y∈rulesIn ns c n):∃ cs,Line.rule y.1 n cs∈c∧y.2=numbered ns cs:=by
 unfold rulesIn at h;obtain ⟨l,hl,e⟩:=List.mem_filterMap.mp h;cases l with
 | rule f m cs=>
  by_cases q:m=n
  ·simp only [q,if_true,Option.some.injEq] at e;subst e;exact ⟨cs,q▸hl,rfl⟩
  ·simp [q] at e
 | _=>simp at e
theorem zlv {ws:List Name}{wt:Name→Nat}{c:Case}{n:Name}{y:Bool×Nat×Nat}(h:y∈wordsIn ws wt c n):∃ w,Line.word y.1 w n∈c∧y.2=(ws.idxOf w,wt w):=by
 unfold wordsIn at h;obtain ⟨l,hl,e⟩:=List.mem_filterMap.mp h;cases l with
 | word s w m=>
  by_cases q:m=n
  ·simp only [q,if_true,Option.some.injEq] at e;subst e;exact ⟨w,q▸hl,rfl⟩
  ·simp [q] at e
 | _=>simp at e
theorem tells_of {c:Case}(v:Valid c){n:Name}{i:Nat}(hi:(RgCase.claims c)[i]? = some n):Tells (weights c) (claimA c n) (knownN c n) i:=by
 refine ⟨rfl,rfl,?_,?_,?_⟩
 ·have e:(knownN c n).rules=(rulesN (RgCase.claims c) c.zipIdx n).map (·.2):=zq1 _ n c 0;rw [e,List.map_map];unfold claimA;rw [List.map_map];rfl
 ·intro x hx;obtain ⟨w,hw,e⟩:=zlv hx;have hm:w∈witnesses c:=za4.mpr (zfj hw w (by simp [newNamed]))
  have hl:=List.idxOf_lt_length_of_mem hm;rw [e];show (weights c).getD ((witnesses c).idxOf w) 0=weightOf c w;unfold weights;rw [List.getD_eq_getElem?_getD,List.getElem?_map,List.getElem?_eq_getElem hl,List.getElem_idxOf hl];rfl
 ·intro x hx y hy;obtain ⟨cs,hl,e⟩:=ztv hx;rw [e] at hy;obtain ⟨z,hz,rfl⟩:=List.mem_map.mp hy;have h1:=zh4 v _ hl z hz;have h2:=zsv v _ _ _ hl z hz;rw [zwq (zkc v) hi] at h2;exact ⟨h1.1,h2⟩
def outs (c:Case)(out:Nat):List (Value×Nat):=settleL (knownOf c) out
theorem zhl (c:Case)(out:Nat):(outs c out).length=(RgCase.claims c).length:=by
 unfold outs;rw [zda,zhp,List.length_map]
theorem ztm (c:Case)(out:Nat):∀ o∈outs c out,o.1≤3:=zni _ _
theorem outs_step {c:Case}(v:Valid c)(out:Nat){n:Name}{i:Nat}(hi:(RgCase.claims c)[i]? = some n):
  (outs c out).take (i+1)=(outs c out).take i++[settleA (weights c) out (factsL ((outs c out).take i)) (claimA c n)]:=by
 have hl:=(List.getElem?_eq_some_iff.mp hi).1;unfold outs;rw [←zgx,←zgx];have e:(knownOf c).take (i+1)=(knownOf c).take i++[knownN c n]:=by
  rw [List.take_add_one,zhp,List.getElem?_map,hi];rfl
 have len:(settleL ((knownOf c).take i) out).length=i:=by
  rw [zda,List.length_take,zhp,List.length_map];omega
 rw [e,zqu,zvy out (by rw [len];exact tells_of v hi) (zni _ _)]
theorem going_eq {c:Case}(v:Valid c)(out:Nat)(n:Name):
  goingBy c (settledOf (knownOf c) out).1 n=(goingA (factsL (outs c out)) (claimA c n)).map (·.line):=by
 have hs:(settledOf (knownOf c) out).1=((outs c out).map (·.1)).toArray:=by rw [zdl];rfl
 rw [hs];unfold goingBy goingA claimA rulesN;simp only;have key:∀ d:List (Line×Nat),(∀ x∈d,x.1∈c)→(d.filterMap fun (x:Line×Nat)=>match x.1 with
  | .rule _ m cs=>if m=n∧soIn ((outs c out).map (·.1)).toArray (numbered (RgCase.claims c) cs)=true then some x.2 else none
  | _=>none)=((((d.filterMap fun (x:Line×Nat)=>match x.1 with
   | .rule f m cs=>if m=n then some (x.2,f,numbered (RgCase.claims c) cs) else none
   | _=>none).map fun x=>(⟨x.1,b12 x.2.1,needN x.2.2⟩:RuleA)).filter fun r=>holdsN (factsL (outs c out)) r.need).map (·.line)):=by
  intro d;induction d with
  | nil=>intro _;rfl
  | cons x r ih=>
   intro hd;have ih':=ih fun y hy=>hd y (List.mem_cons_of_mem _ hy);have hx:=hd x List.mem_cons_self;rw [List.filterMap_cons,List.filterMap_cons];obtain ⟨l,i⟩:=x;cases l with
   | rule f m cs=>
    by_cases e:m=n
    ·have hh:holdsN (factsL (outs c out)) (needN (numbered (RgCase.claims c) cs))=soIn ((outs c out).map (·.1)).toArray (numbered (RgCase.claims c) cs):=by
      rw [zif];refine zl5 (ztm c out) fun y hy=>?_;obtain ⟨z,hz,rfl⟩:=List.mem_map.mp hy;rw [zhl];exact zh4 v _ hx z hz
     simp only [e,true_and,if_true];rw [List.map_cons,List.filter_cons];simp only;rw [hh];cases hq:soIn ((outs c out).map (·.1)).toArray (numbered (RgCase.claims c) cs) with
     | true=>
      simp only [if_true];rw [List.map_cons,ih']
     | false=>
      simp only [Bool.false_eq_true,if_false];exact ih'
    ·simp only [e,false_and,if_false];exact ih'
   | _=>exact ih'
 exact key c.zipIdx fun x hx=>ztu hx
def penA (facts:Nat)(q:BoatA):List Nat:=(q.pens.filter fun x=>holdsN facts x.2).map (·.1)
def penMax (facts:Nat)(q:BoatA):Nat:=(penA facts q).foldl max 0
def redA (facts:Nat)(q:BoatA):Bool:=q.reds.any fun x=>holdsN facts x
theorem zj7:∀ (l:List Nat) (a:Nat),a≤l.foldl max a∧∀ x∈l,x≤l.foldl max a
 | [],a=>⟨Nat.le_refl _,by simp⟩
 | y::r,a=>by
  rw [List.foldl_cons];obtain ⟨h1,h2⟩:=zj7 r (max a y);refine ⟨by omega,fun x hx=>?_⟩
  rcases List.mem_cons.mp hx with rfl | hx
  ·omega
  ·exact h2 x hx
theorem ziz:∀ (l:List Nat) (a:Nat),l.foldl max a=a∨l.foldl max a∈l
 | [],a=>.inl rfl
 | y::r,a=>by
  rw [List.foldl_cons];rcases ziz r (max a y) with h | h
  ·rw [h];by_cases q:a≤y
   ·rw [Nat.max_eq_right q];exact .inr List.mem_cons_self
   ·rw [Nat.max_eq_left (by omega)]
    exact .inl rfl
  ·exact .inr (List.mem_cons_of_mem _ h)
theorem max_is {l:List Nat}{m:Nat}(hm:m∈l)(h:∀ y∈l,y≤m):l.foldl max 0=m:=by
 have h1:=(zj7 l 0).2 m hm;rcases ziz l 0 with e | e
 ·omega
 ·have:=h _ e;omega
theorem hold_of {c:Case}(v:Valid c)(out:Nat){l:Line}(hl:l∈c){cs:List Cond}(hcs:∀ x∈cs,x∈condsOf l):
  holdsN (factsL (outs c out)) (needN (numbered (RgCase.claims c) cs))=soIn (settledOf (knownOf c) out).1 (numbered (RgCase.claims c) cs):=by
 have hs:(settledOf (knownOf c) out).1=((outs c out).map (·.1)).toArray:=by rw [zdl];rfl
 rw [hs,zif];refine zl5 (ztm c out) fun y hy=>?_;obtain ⟨z,hz,rfl⟩:=List.mem_map.mp hy;rw [zhl];exact zh4 v _ hl z (hcs z hz)
theorem znn {c:Case}(v:Valid c)(out:Nat)(b:Name):penaltyBy c (settledOf (knownOf c) out).1 b=penMax (factsL (outs c out)) (boatA c b):=by
 unfold penaltyBy penMax penA boatA pensN;simp only;have key:∀ (d:Case) (a:Nat),(∀ x∈d,x∈c)→(d.map fun (l:Line)=>match l with
  | .penalty a n cs=>if a=b∧soIn (settledOf (knownOf c) out).1 (numbered (RgCase.claims c) cs)=true then n else 0
  | _=>0).foldl max a=(((d.filterMap fun (l:Line)=>match l with
   | .penalty a n cs=>if a=b then some (n,needN (numbered (RgCase.claims c) cs)) else none
   | _=>none).filter fun x=>holdsN (factsL (outs c out)) x.2).map (·.1)).foldl max a:=by
  intro d;induction d with
  | nil=>intro a _;rfl
  | cons l r ih=>
   intro a hd;have ih':=fun a=>ih a fun y hy=>hd y (List.mem_cons_of_mem _ hy);have hl:=hd l List.mem_cons_self;rw [List.map_cons,List.foldl_cons,List.filterMap_cons,ih'];cases l with
   | penalty a' n cs=>
    by_cases e:a'=b
    ·have hh:=hold_of v out hl (cs:=cs) fun x hx=>hx;simp only [e,true_and,if_true];rw [List.filter_cons];simp only;rw [hh];cases hq:soIn (settledOf (knownOf c) out).1 (numbered (RgCase.claims c) cs) with
     | true=>
      simp only [if_true];rw [List.map_cons,List.foldl_cons]
     | false=>
      simp
    ·simp [e]
   | _=>simp
 exact key c 0 fun x hx=>hx
theorem zv3 {c:Case}(v:Valid c)(out:Nat)(b:Name):redressBy c (settledOf (knownOf c) out).1 b=(penMax (factsL (outs c out)) (boatA c b)==0&&redA (factsL (outs c out)) (boatA c b)):=by
 unfold redressBy;simp only;rw [znn v];congr 1
 unfold redA boatA redsN;simp only;have key:∀ (d:Case),(∀ x∈d,x∈c)→(d.any fun (l:Line)=>match l with
  | .redress a cs=>a==b&&soIn (settledOf (knownOf c) out).1 (numbered (RgCase.claims c) cs)
  | _=>false)=((d.filterMap fun (l:Line)=>match l with
   | .redress a cs=>if a=b then some (needN (numbered (RgCase.claims c) cs)) else none
   | _=>none).any fun x=>holdsN (factsL (outs c out)) x):=by
  intro d;induction d with
  | nil=>intro _;rfl
  | cons l r ih=>
   intro hd;have ih':=ih fun y hy=>hd y (List.mem_cons_of_mem _ hy);have hl:=hd l List.mem_cons_self;rw [List.any_cons,List.filterMap_cons,ih'];cases l with
   | redress a cs=>
    by_cases e:a=b
    ·have hh:=hold_of v out hl (cs:=cs) fun x hx=>hx;simp only [e,if_true,beq_self_eq_true,Bool.true_and];rw [List.any_cons,hh]
    ·simp [e]
   | _=>simp
 exact key c fun x hx=>hx
end
section
open RgCase
theorem znf {c:Case}{b i:Nat}{y:Value×Nat}(h:(outs c b)[i]? = some y):(settledOf ((knownOf c).take (i+1)) b).1.getD i 3=y.1:=by
 have hi:i<(outs c b).length:=(List.getElem?_eq_some_iff.mp h).1;have hk:i<(knownOf c).length:=by unfold outs at hi;rwa [zda] at hi
 obtain ⟨z,e1,e2,_⟩:=zjz ((knownOf c).take (i+1)) b i (by rw [List.length_take];omega)
 rw [zgx] at e1;have e3:((outs c b).take (i+1))[i]? = some y:=by rw [List.getElem?_take_of_lt (by omega)];exact h
 unfold outs at e3;rw [e3] at e1;cases e1;exact e2
theorem zls {c:Case}{i:Nat}(b:Nat)(hi:i<(RgCase.claims c).length):∃ y,(outs c b)[i]? = some y:=⟨_,List.getElem?_eq_getElem (by rw [zhl];exact hi)⟩
theorem zxj {c:Case}{i n:Nat}{pre post:List Nat}{b:Nat}{y0 y:Value×Nat}(hn:n≤8)(hi:i<(RgCase.claims c).length)(hp:(pre++b::post).Perm (List.range' 1 (2^n - 1)))(hs:(pre++b::post).Pairwise (fun a b=>setKey a≤setKey b))(h0:(outs c 0)[i]? = some y0)(hpre:∀ a∈pre,∀ z,(outs c a)[i]? = some z→z.1=y0.1)(hy:(outs c b)[i]? = some y)(hne:y.1≠y0.1):turnBy (knownOf c) n i=some b:=by
 have hm:∀ a,a∈pre++b::post↔1≤a∧a<2^n:=fun a=>by
  rw [hp.mem_iff,List.mem_range'_1];have:=Nat.one_le_two_pow (n:=n);omega
 have hb:=(hm b).mp (by simp)
 refine zsx hn hb.2 (by rw [znf hy,znf h0];exact hne) fun a ha hd=>?_
 obtain ⟨z,hz⟩:=zls a hi;rw [znf hz,znf h0] at hd;have ha0:a≠0:=fun e=>by
  subst e;rw [h0] at hz;cases hz;exact hd rfl
 rw [List.pairwise_append] at hs;rcases List.mem_append.mp ((hm a).mpr ⟨by omega,ha⟩) with h | h
 ·exact absurd (hpre a h z hz) hd
 ·rcases List.mem_cons.mp h with rfl | h
  ·exact Nat.le_refl _
  ·exact (List.pairwise_cons.mp hs.2.1).1 a h
theorem zxk {c:Case}{i n:Nat}{l:List Nat}{y0:Value×Nat}(hi:i<(RgCase.claims c).length)(hp:l.Perm (List.range' 1 (2^n - 1)))(h0:(outs c 0)[i]? = some y0)(hall:∀ a∈l,∀ z,(outs c a)[i]? = some z→z.1=y0.1):turnBy (knownOf c) n i=none:=by
 refine zsy fun a ha=>?_;obtain ⟨z,hz⟩:=zls a hi;rw [znf hz,znf h0];by_cases e:a=0
 ·subst e;rw [h0] at hz;cases hz;rfl
 ·refine hall a ?_ z hz;rw [hp.mem_iff,List.mem_range'_1];have:=Nat.one_le_two_pow (n:=n);omega
end
section
open RgCase
theorem zob {c:Case}{l:Line}(h:tooMany c l=false):(c++[l]).length≤512∧(RgCase.claims (c++[l])).length≤64∧(witnesses (c++[l])).length≤8:=by
 unfold tooMany at h;simp only [Bool.or_eq_false_iff,decide_eq_false_iff_not] at h;obtain ⟨h1,h2,h3⟩:=h;exact ⟨Nat.le_of_not_lt h1,Nat.le_of_not_lt h2,Nat.le_of_not_lt h3⟩
theorem zbe {c:Case}(v:Valid c):c.length≤512∧(RgCase.claims c).length≤64∧(witnesses c).length≤8:=by
 cases v with
 | nil=>exact ⟨by simp,by simp [RgCase.claims],by simp [witnesses,named]⟩
 | snoc v hl hw=>exact zob (zb2 hw).2.2
theorem wits_len (c:Case)(l:Line):(witnesses (c++[l])).length=(witnesses c).length+(match newNamed l with
 | [w]=>if w∈witnesses c then 0 else 1
 | _=>0):=by
 rw [zdh];cases e:newNamed l with
 | nil=>rfl
 | cons w r=>
  have hr:r=[]:=by cases l <;> simp_all [newNamed]
  subst hr;rw [List.foldl_cons,List.foldl_nil];unfold addName;by_cases q:w∈witnesses c
  ·rw [if_pos (List.contains_iff_mem.mpr q)];simp [q]
  ·rw [if_neg (fun z=>q (List.contains_iff_mem.mp z))];simp [q]
def fullA (c:Case):Line→Bool
 | .claim _=>decide ((RgCase.claims c).length=64)
 | .weight w _=>decide (w∉witnesses c∧(witnesses c).length=8)
 | .word _ w _=>decide (w∉witnesses c∧(witnesses c).length=8)
 | _=>false
theorem zvu {c:Case}(v:Valid c)(l:Line):tooMany c l=(decide (c.length=512)||fullA c l):=by
 obtain ⟨b1,b2,b3⟩:=zbe v;have h1:(c++[l]).length=c.length+1:=by simp
 have h2:(RgCase.claims (c++[l])).length=(RgCase.claims c).length+(newClaim l).length:=by rw [zbu,List.length_append]
 have h3:=wits_len c l;have key:tooMany c l=true↔(decide (c.length=512)||fullA c l)=true:=by
  unfold tooMany;simp only [Bool.or_eq_true,decide_eq_true_iff];rw [h1,h2,h3];cases l with
  | claim n=>
   simp only [newClaim,newNamed,fullA,List.length_singleton,decide_eq_true_iff];omega
  | weight w k=>
   simp only [newClaim,newNamed,fullA,List.length_nil,decide_eq_true_iff];by_cases q:w∈witnesses c
   ·simp only [q,if_true,not_true_eq_false,false_and,or_false];omega
   ·simp only [q,if_false,not_false_eq_true,true_and];omega
  | word s w n=>
   simp only [newClaim,newNamed,fullA,List.length_nil,decide_eq_true_iff];by_cases q:w∈witnesses c
   ·simp only [q,if_true,not_true_eq_false,false_and,or_false];omega
   ·simp only [q,if_false,not_false_eq_true,true_and];omega
  | _=>
   simp only [newClaim,newNamed,fullA,List.length_nil,Bool.false_eq_true,or_false];omega
 cases e1:tooMany c l with
 | true=>rw [key.mp e1]
 | false=>
  cases e2:(decide (c.length=512)||fullA c l) with
  | false=>rfl
  | true=>rw [key.mpr e2] at e1;cases e1
def condOk (ns:List Name)(before:Nat)(x:Cond):Bool:=decide (x.claim∈ns∧ns.idxOf x.claim<before)
def beforeOf (ns:List Name):Line→Nat
 | .rule _ n _=>ns.idxOf n
 | _=>ns.length
def ownClaim:Line→List Name
 | .word _ _ n=>[n]
 | .seen _ n=>[n]
 | .rule _ n _=>[n]
 | _=>[]
theorem all_congr' {α:Type}{p q:α→Bool}:∀ {l:List α},(∀ x∈l,p x=q x)→l.all p=l.all q
 | [],_=>rfl
 | a::r,h=>by rw [List.all_cons,List.all_cons,h a List.mem_cons_self,all_congr' fun x hx=>h x (List.mem_cons_of_mem _ hx)]
theorem zlg (c:Case)(l:Line):stands c l=((ownClaim l).all (fun n=>decide (n∈RgCase.claims c))&&(condsOf l).all (condOk (RgCase.claims c) (beforeOf (RgCase.claims c) l))):=by
 have hc:∀ n,(RgCase.claims c).contains n=decide (n∈RgCase.claims c):=fun n=>by
  by_cases q:n∈RgCase.claims c
  ·rw [List.contains_iff_mem.mpr q,decide_eq_true q]
  ·rw [decide_eq_false q];exact Bool.eq_false_iff.mpr fun z=>q (List.contains_iff_mem.mp z)
 have hin:∀ cs:List Cond,(cs.map fun x=>x.claim).all (fun n=>(RgCase.claims c).contains n)=cs.all (condOk (RgCase.claims c) (RgCase.claims c).length):=by
  intro cs;rw [List.all_map];refine all_congr' fun x _=>?_;show (RgCase.claims c).contains x.claim=_;rw [hc];unfold condOk;by_cases q:x.claim∈RgCase.claims c
  ·rw [decide_eq_true q,decide_eq_true ⟨q,List.idxOf_lt_length_of_mem q⟩]
  ·rw [decide_eq_false q,decide_eq_false (fun z=>q z.1)]
 unfold stands;cases l with
 | rule f n cs=>
  simp only [Line.claims,ownClaim,condsOf,beforeOf,List.all_cons,List.all_nil,Bool.and_true];rw [hc,Bool.and_assoc];congr 1
  have e:(cs.map fun x=>x.claim).all (fun n=>(RgCase.claims c).contains n)=cs.all fun x=>decide (x.claim∈RgCase.claims c):=by
   rw [List.all_map];exact all_congr' fun x _=>hc x.claim
  rw [e];have aux:∀ d:List Cond,((d.all fun x=>decide (x.claim∈RgCase.claims c))&&d.all fun x=>decide ((RgCase.claims c).idxOf x.claim<(RgCase.claims c).idxOf n))=d.all (condOk (RgCase.claims c) ((RgCase.claims c).idxOf n)):=by
   intro d;induction d with
   | nil=>rfl
   | cons x r ih=>
    rw [List.all_cons,List.all_cons,List.all_cons,←ih];have e1:condOk (RgCase.claims c) ((RgCase.claims c).idxOf n) x=(decide (x.claim∈RgCase.claims c)&&decide ((RgCase.claims c).idxOf x.claim<(RgCase.claims c).idxOf n)):=by
     unfold condOk;by_cases q1:x.claim∈RgCase.claims c <;> by_cases q2:(RgCase.claims c).idxOf x.claim<(RgCase.claims c).idxOf n <;> simp [q1,q2]
    rw [e1];cases decide (x.claim∈RgCase.claims c) <;> cases decide ((RgCase.claims c).idxOf x.claim<(RgCase.claims c).idxOf n) <;> simp
  exact aux cs
 | claim n=>rfl
 | weight w n=>rfl
 | word s w n=>
  simp only [Line.claims,ownClaim,condsOf,List.all_cons,List.all_nil,Bool.and_true];exact hc n
 | seen s n=>
  simp only [Line.claims,ownClaim,condsOf,List.all_cons,List.all_nil,Bool.and_true];exact hc n
 | penalty b n cs=>
  simp only [Line.claims,ownClaim,condsOf,beforeOf,List.all_nil,Bool.and_true,Bool.true_and];exact hin cs
 | redress b cs=>
  simp only [Line.claims,ownClaim,condsOf,beforeOf,List.all_nil,Bool.and_true,Bool.true_and];exact hin cs
theorem zn3 {c:Case}{n:Name}:∀ x∈(claimA c n).words,x.1<(witnesses c).length:=by
 intro x hx;obtain ⟨y,hy,rfl⟩:=List.mem_map.mp hx;obtain ⟨w,hw,e⟩:=zlv hy;have hm:w∈witnesses c:=za4.mpr (zfj hw w (by simp [newNamed]))
 rw [e];exact List.idxOf_lt_length_of_mem hm
theorem zh2 {c:Case}{s:Bool}{w n:Name}:clashes c (.word s w n)=decide (w∈witnesses c∧∃ x∈(claimA c n).words,x.1=(witnesses c).idxOf w):=by
 rw [zvo];have e:((knownN c n).words.any fun x=>x.2.1==(witnesses c).idxOf w)=decide (∃ x∈(claimA c n).words,x.1=(witnesses c).idxOf w):=by
  by_cases q:∃ x∈(claimA c n).words,x.1=(witnesses c).idxOf w
  ·rw [decide_eq_true q,List.any_eq_true];obtain ⟨x,hx,e⟩:=q;obtain ⟨y,hy,rfl⟩:=List.mem_map.mp hx;exact ⟨y,hy,by rw [beq_iff_eq];exact e⟩
  ·rw [decide_eq_false q];refine Bool.eq_false_iff.mpr fun z=>q ?_;obtain ⟨y,hy,e⟩:=List.any_eq_true.mp z;exact ⟨(y.2.1,b12 y.1),List.mem_map.mpr ⟨y,hy,rfl⟩,beq_iff_eq.mp e⟩
 rw [e];by_cases q:w∈witnesses c
 ·by_cases q2:∃ x∈(claimA c n).words,x.1=(witnesses c).idxOf w
  ·rw [decide_eq_true q2,decide_eq_true ⟨q,q2⟩]
  ·rw [decide_eq_false q2,decide_eq_false (fun z=>q2 z.2)]
 ·rw [decide_eq_false (fun z:w∈witnesses c∧_=>q z.1)];refine decide_eq_false ?_;rintro ⟨x,hx,e⟩;have h1:=zn3 x hx;have h2:(witnesses c).length≤(witnesses c).idxOf w:=by
   refine Nat.le_of_not_lt fun z=>q ?_;have:=List.getElem_idxOf z;rw [←this];exact List.getElem_mem z
  omega
theorem word_new {c:Case}{s:Bool}{w n:Name}(h:clashes c (.word s w n)=false):∀ x∈(claimA c n).words,x.1≠(addWit (absOf c) w 1).wits.idxOf w:=by
 intro x hx e;rw [zh2] at h;have h':=of_decide_eq_false h;unfold addWit at e;have hq:(absOf c).wits=witnesses c:=rfl;by_cases q:w∈witnesses c
 ·rw [if_pos (by rw [hq];exact q),hq] at e
  exact h' ⟨q,x,hx,e⟩
 ·rw [if_neg (by rw [hq];exact q)] at e
  have e2:x.1=(witnesses c++[w]).idxOf w:=e;rw [List.idxOf_append,if_neg q] at e2;have:=zn3 x hx;omega
theorem zs9 {c:Case}{s:Bool}{n:Name}:clashes c (.seen s n)=decide ((claimA c n).known≠0):=by
 rw [zxw];show _=decide (seenN (seenOf c n)≠0);cases seenOf c n with
 | none=>rfl
 | some b=>cases b <;> rfl
theorem zka (l:List Name)(n:Name):l.contains n=decide (n∈l):=by
 by_cases q:n∈l
 ·rw [List.contains_iff_mem.mpr q,decide_eq_true q]
 ·rw [decide_eq_false q];exact Bool.eq_false_iff.mpr fun z=>q (List.contains_iff_mem.mp z)
theorem zkd {c:Case}{n:Name}:clashes c (.claim n)=decide (n∈RgCase.claims c):=zka _ _
theorem zn4 {c:Case}{w:Name}{k:Nat}:clashes c (.weight w k)=decide (w∈witnesses c):=by
 show (named c).contains w=_;rw [zka];by_cases q:w∈named c
 ·rw [decide_eq_true q,decide_eq_true (za4.mpr q)]
 ·rw [decide_eq_false q,decide_eq_false (fun z=>q (za4.mp z))]
theorem zdf:∀ (ws s:List Name),(ws.foldl addName s).length≤s.length+ws.length
 | [],s=>by simp
 | w::r,s=>by
  rw [List.foldl_cons];have:=zdf r (addName s w);have h2:(addName s w).length≤s.length+1:=by unfold addName;split <;> simp
  rw [List.length_cons];omega
theorem zpz (c:Case):(boatNames c).length≤c.length:=by
 have h1:=zdf (c.flatMap boatName) [];have h2:(c.flatMap boatName).length≤c.length:=by
  induction c with
  | nil=>simp
  | cons l r ih=>
   rw [List.flatMap_cons,List.length_append,List.length_cons];have:(boatName l).length≤1:=by cases l <;> simp [boatName]
   have ih':=ih (zdf _ _);omega
 unfold boatNames;rw [List.length_nil,Nat.zero_add] at h1;exact Nat.le_trans h1 h2
theorem zxd {c:Case}(n:Name):(claimA c n).words.length≤c.length:=by
 unfold claimA;simp only [List.length_map];exact List.length_filterMap_le _ _
theorem zlj {c:Case}(n:Name):(claimA c n).rules.length≤c.length:=by
 unfold claimA;simp only [List.length_map];have:=List.length_filterMap_le (fun (x:Line×Nat)=>match x.1 with
  | .rule f m cs=>if m=n then some (x.2,f,numbered (RgCase.claims c) cs) else none
  | _=>none) c.zipIdx
 rw [List.length_zipIdx] at this;exact this
theorem zuz {c:Case}(b:Name):(boatA c b).pens.length≤c.length∧(boatA c b).reds.length≤c.length:=⟨List.length_filterMap_le _ _,List.length_filterMap_le _ _⟩
end
section
open RgCase
open Wqatcy (Call)
theorem whole_id (c:List (List Int)):PyWqatcy.whole c=c:=by
 unfold PyWqatcy.whole;split <;> rfl
def flat1:Call→List Int
 | .take t=>0::(t.length:Int)::t.map fun c=>(c.toNat:Int)
 | .more t=>1::(t.length:Int)::t.map fun c=>(c.toNat:Int)
 | .text=>[2]
 | .sizes=>[3]
 | .claim i w=>[4,i,w]
 | .rules i w=>[5,i,w]
 | .boat w b=>6::(w:Int)::(b.length:Int)::b.map fun c=>(c.toNat:Int)
 | .witness k=>[7,k]
 | .turn i=>[8,i]
def flat (xs:List Call):List Int:=xs.flatMap flat1
def ansI (a:Wqatcy.Ans):List Int:=a.ret::a.nums.map fun (n:Nat)=>(n:Int)
def playX:Wqatcy.State→List Call→List (List Int)
 | _,[]=>[]
 | s,x::r=>ansI (Wqatcy.step s x).2::playX (Wqatcy.step s x).1 r
theorem zht:∀ {t:List Int},t.all (fun z=>WqatcyNeutral.natural z 8)=true→WqatcyNeutral.ofBytes (WqatcyNeutral.bytes t)=t
 | [],_=>rfl
 | z::r,h=>by
  rw [List.all_cons,Bool.and_eq_true] at h;have ih:=zht h.2;have hz:=h.1;unfold WqatcyNeutral.natural at hz;rw [Bool.and_eq_true,decide_eq_true_iff,decide_eq_true_iff] at hz;show WqatcyNeutral.int (UInt8.ofNat z.toNat).toNat::WqatcyNeutral.ofBytes (WqatcyNeutral.bytes r)=z::r;rw [ih];congr 1
  have h1:z.toNat<256:=by have:=hz.2;omega
  have h2:(UInt8.ofNat z.toNat).toNat=z.toNat:=UInt8.toNat_ofNat_of_lt' h1;show ((UInt8.ofNat z.toNat).toNat:Int)=z;rw [h2];omega
theorem zf6 {z:Int}{b:Nat}(h:WqatcyNeutral.natural z b=true):((z.toNat:Nat):Int)=z∧z.toNat<2^b:=by
 unfold WqatcyNeutral.natural at h;rw [Bool.and_eq_true,decide_eq_true_iff,decide_eq_true_iff] at h;refine ⟨by omega,?_⟩
 have:((z.toNat:Nat):Int)<((2^b:Nat):Int):=by
  rw [Int.toNat_of_nonneg h.1];simpa using h.2
 omega
theorem zxb {c:List (List Int)}(h:WqatcyNeutral.asked1 c=true):∃ x,WqatcyNeutral.callOf c=some x∧PyFlat.put1 c=flat1 x∧Wqatcy.asked x=true:=by
 unfold WqatcyNeutral.asked1 at h;split at h
 ·rename_i t
  refine ⟨_,rfl,?_,rfl⟩;have e:=zht h;have el:(WqatcyNeutral.bytes t).length=t.length:=by unfold WqatcyNeutral.bytes;simp
  show 0::((t.length:Int)::t++[])=0::((WqatcyNeutral.bytes t).length:Int)::WqatcyNeutral.ofBytes (WqatcyNeutral.bytes t);rw [e,el];simp
 ·rename_i t
  refine ⟨_,rfl,?_,rfl⟩;have e:=zht h;have el:(WqatcyNeutral.bytes t).length=t.length:=by unfold WqatcyNeutral.bytes;simp
  show 1::((t.length:Int)::t++[])=1::((WqatcyNeutral.bytes t).length:Int)::WqatcyNeutral.ofBytes (WqatcyNeutral.bytes t);rw [e,el];simp
 ·exact ⟨_,rfl,rfl,rfl⟩
 ·exact ⟨_,rfl,rfl,rfl⟩
 ·rename_i i w
  rw [Bool.and_eq_true] at h;obtain ⟨a1,a2⟩:=zf6 h.1;obtain ⟨b1,b2⟩:=zf6 h.2;refine ⟨_,rfl,?_,?_⟩
  ·show [4,i,w]=[4,((i.toNat:Nat):Int),((w.toNat:Nat):Int)];rw [a1,b1]
  ·show (decide (i.toNat<2^32)&&decide (w.toNat<2^32))=true;simp only [Bool.and_eq_true,decide_eq_true_iff];exact ⟨a2,b2⟩
 ·rename_i i w
  rw [Bool.and_eq_true] at h;obtain ⟨a1,a2⟩:=zf6 h.1;obtain ⟨b1,b2⟩:=zf6 h.2;refine ⟨_,rfl,?_,?_⟩
  ·show [5,i,w]=[5,((i.toNat:Nat):Int),((w.toNat:Nat):Int)];rw [a1,b1]
  ·show (decide (i.toNat<2^32)&&decide (w.toNat<2^32))=true;simp only [Bool.and_eq_true,decide_eq_true_iff];exact ⟨a2,b2⟩
 ·rename_i w b
  rw [Bool.and_eq_true] at h;obtain ⟨a1,a2⟩:=zf6 h.1;have e:=zht h.2;have el:(WqatcyNeutral.bytes b).length=b.length:=by unfold WqatcyNeutral.bytes;simp
  refine ⟨_,rfl,?_,?_⟩
  ·show 6::w::((b.length:Int)::b++[])=6::((w.toNat:Nat):Int)::((WqatcyNeutral.bytes b).length:Int)::WqatcyNeutral.ofBytes (WqatcyNeutral.bytes b);rw [e,el,a1];simp
  ·show decide (w.toNat<2^32)=true;exact decide_eq_true a2
 ·rename_i k
  obtain ⟨a1,a2⟩:=zf6 h;refine ⟨_,rfl,?_,decide_eq_true a2⟩;show [7,k]=[7,((k.toNat:Nat):Int)];rw [a1]
 ·rename_i k
  obtain ⟨a1,a2⟩:=zf6 h;refine ⟨_,rfl,?_,decide_eq_true a2⟩;show [8,k]=[8,((k.toNat:Nat):Int)];rw [a1]
 ·cases h
theorem znm:∀ (cs:List (List (List Int))) (s:Wqatcy.State),(∀ c∈cs,WqatcyNeutral.asked1 c=true)→
  ∃ xs,PyFlat.put cs=flat xs∧(∀ x∈xs,Wqatcy.asked x=true)∧PyFlat.played WqatcyNeutral.step s cs=playX s xs∧xs.length=cs.length
 | [],s,_=>⟨[],rfl,by simp,rfl,rfl⟩
 | c::r,s,h=>by
  obtain ⟨x,h1,h2,h3⟩:=zxb (h c List.mem_cons_self);obtain ⟨xs,i1,i2,i3,i4⟩:=znm r (Wqatcy.step s x).1 fun d hd=>h d (List.mem_cons_of_mem _ hd);refine ⟨x::xs,?_,?_,?_,by simp [i4]⟩
  ·show PyFlat.put1 c++PyFlat.put r=flat1 x++flat xs;rw [h2,i1]
  ·intro y hy;rcases List.mem_cons.mp hy with rfl | hy
   ·exact h3
   ·exact i2 y hy
  ·have e:WqatcyNeutral.step s c=((Wqatcy.step s x).1,ansI (Wqatcy.step s x).2):=by
    unfold WqatcyNeutral.step;rw [h1];rfl
   show (WqatcyNeutral.step s c).2::PyFlat.played WqatcyNeutral.step (WqatcyNeutral.step s c).1 r=ansI (Wqatcy.step s x).2::playX (Wqatcy.step s x).1 xs;rw [e,i3]
theorem put1_len {c:List (List Int)}(h:WqatcyNeutral.asked1 c=true):(PyFlat.put1 c).length≤2*(c.map fun r=>r.length).sum:=by
 unfold WqatcyNeutral.asked1 at h;split at h <;> first | (simp [PyFlat.put1,PyFlat.putRows,PyFlat.putRow];done) | (simp [PyFlat.put1,PyFlat.putRows,PyFlat.putRow];omega) | cases h
theorem put_len:∀ {cs:List (List (List Int))},(∀ c∈cs,WqatcyNeutral.asked1 c=true)→(PyFlat.put cs).length≤2*WqatcyNeutral.numbers cs
 | [],_=>by simp [PyFlat.put,WqatcyNeutral.numbers]
 | c::r,h=>by
  have h1:=put1_len (h c List.mem_cons_self);have h2:=put_len (cs:=r) fun d hd=>h d (List.mem_cons_of_mem _ hd);show (PyFlat.put1 c++PyFlat.put r).length≤_;rw [List.length_append];unfold WqatcyNeutral.numbers at h2 ⊢;rw [List.flatten_cons,List.map_append,List.sum_append];omega
theorem request {l:List Int}(h:PyWqatcy.answers_asked l=true):∃ xs,l=flat xs∧(∀ x∈xs,Wqatcy.asked x=true)∧1≤xs.length∧xs.length≤300∧xs.length*(l.length+1000)≤2000000∧PyWqatcy.answers l=PyFlat.told (playX Wqatcy.start xs):=by
 unfold PyWqatcy.answers_asked at h;unfold PyWqatcy.answers;have key:PyWqatcy.calls l=PyFlat.calls PyWqatcy.shape l.length l:=by
  unfold PyWqatcy.calls;cases PyFlat.calls PyWqatcy.shape l.length l with
  | none=>rfl
  | some cs=>
   show some (cs.map PyWqatcy.whole)=some cs;rw [show cs.map PyWqatcy.whole=cs from by
    conv=>rhs;rw [←List.map_id cs]
    exact List.map_congr_left fun c _=>whole_id c]
 rw [key] at h ⊢;cases e:PyFlat.calls PyWqatcy.shape l.length l with
 | none=>rw [e] at h;cases h
 | some cs=>
  rw [e] at h;have h':(PyFlat.atMost 300 cs&&WqatcyNeutral.asked cs)=true:=h;rw [Bool.and_eq_true] at h';obtain ⟨g1,g2⟩:=h';unfold WqatcyNeutral.asked at g2;rw [Bool.and_eq_true,Bool.and_eq_true,Bool.and_eq_true,List.all_eq_true,decide_eq_true_iff] at g2;obtain ⟨⟨⟨a1,a2⟩,_⟩,a4⟩:=g2;obtain ⟨xs,i1,i2,i3,i4⟩:=znm cs WqatcyNeutral.start a1;obtain ⟨p1,_⟩:=PyFlat.put_calls l.length l cs e;refine ⟨xs,p1.trans i1,i2,by omega,?_,?_,?_⟩
  ·have:cs.length≤300:=of_decide_eq_true g1;omega
  ·have hl:l.length≤2*WqatcyNeutral.numbers cs:=by rw [p1];exact put_len a1
   have h4:cs.length*(WqatcyNeutral.numbers cs+1000)≤1000000:=of_decide_eq_true a4;rw [i4];have h5:cs.length*(l.length+1000)≤cs.length*(2*(WqatcyNeutral.numbers cs+1000)):=Nat.mul_le_mul_left _ (by omega)
   rw [Nat.mul_left_comm] at h5;have h6:=Nat.mul_le_mul_left 2 h4;exact Nat.le_trans h5 h6
  ·show PyFlat.told (PyFlat.played WqatcyNeutral.step WqatcyNeutral.start cs)=_;rw [i3];rfl
end
section
open RgCase
def ended (ls:List Bytes):Bytes:=ls.flatMap fun b=>b++[10]
theorem zsa:∀ {ls:List Bytes} {t u:Bytes},cutAt 10 t=ls++[u]→t=ended ls++u
 | [],t,u,h=>by
  have h10:(10:UInt8)∉u:=cut_no t u (by rw [h];simp)
  have key:∀ t:Bytes,cutAt 10 t=[u]→t=u:=by
   intro t;induction t with
   | nil=>intro e;cases e;rfl
   | cons c r ih=>
    intro e;by_cases hc:c=10
    ·subst hc;rw [zaz] at e;exact absurd (List.cons.inj e).2 (zcw 10 r)
    ·obtain ⟨l,m,e1,e2⟩:=zay hc r;rw [e2] at e;obtain ⟨e3,e4⟩:=List.cons.inj e;subst e4;have:∀ {r l:Bytes},cutAt 10 r=[l]→r=l:=by
      intro r;induction r with
      | nil=>intro l e;cases e;rfl
      | cons d s ih2=>
       intro l e;by_cases hd:d=10
       ·subst hd;rw [zaz] at e;exact absurd (List.cons.inj e).2 (zcw 10 s)
       ·obtain ⟨l',m',e1',e2'⟩:=zay hd s;rw [e2'] at e;obtain ⟨e3',e4'⟩:=List.cons.inj e;subst e4';rw [←e3',ih2 e1']
     rw [this e1,e3]
  exact key t h
 | l::ls,t,u,h=>by
  have key:∀ (t:Bytes) (l:Bytes) (m:List Bytes),m≠[]→cutAt 10 t=l::m→∃ r,t=l++(10::r)∧cutAt 10 r=m:=by
   intro t;induction t with
   | nil=>
    intro l m hm e;obtain ⟨_,e2⟩:=List.cons.inj e;exact absurd e2.symm hm
   | cons c r ih=>
    intro l m hm e;by_cases hc:c=10
    ·subst hc;rw [zaz] at e;obtain ⟨e1,e2⟩:=List.cons.inj e;subst e1;exact ⟨r,rfl,e2⟩
    ·obtain ⟨l',m',e1,e2⟩:=zay hc r;rw [e2] at e;obtain ⟨e3,e4⟩:=List.cons.inj e;subst e3 e4;obtain ⟨r',h1,h2⟩:=ih l' m' hm e1;exact ⟨r',by rw [h1];rfl,h2⟩
  obtain ⟨r,h1,h2⟩:=key t l (ls++[u]) (by simp) h
  rw [h1,zsa h2];simp [ended]
theorem zi0:∀ {ls:List Bytes} {c d:Case},enterAll c ls=.ok d→caseText d=caseText c++ended ls
 | [],c,d,h=>by
  cases h;simp [ended]
 | b::r,c,d,h=>by
  rw [enterAll] at h;cases e:lineIn b with
  | none=>
   rw [e] at h;cases h
  | some x=>
   rw [e] at h;have h':(if wrongOf c x=0 then enterAll (c++[x]) r else .error (c.length,wrongOf c x))=.ok d:=h
   by_cases q:wrongOf c x=0
   ·rw [if_pos q] at h';have ih:=zi0 h';have ht:x.text=b:=(zog (zep.mp e).1 b).mpr (zep.mp e).2;rw [ih];unfold caseText ended;rw [List.flatMap_append,List.flatMap_cons,List.flatMap_nil,List.flatMap_cons,ht];simp
   ·rw [if_neg q] at h';cases h'
theorem zik {t:Bytes}{c:Case}(h:readCase t=.ok c):caseText c=t∧Valid c:=by
 obtain ⟨ls,u,e1,_,_⟩:=zgl t;rw [zlm e1] at h;cases e:enterAll [] ls with
 | error x=>rw [e] at h;cases h
 | ok d=>
  rw [e] at h;have h':(if u=[] then Except.ok d else Except.error (d.length,1))=Except.ok c:=h
  by_cases q:u=[]
  ·rw [if_pos q] at h';cases h';subst q;have:=zi0 e;rw [this,zsa e1];exact ⟨by simp [caseText],zhz .nil e⟩
  ·rw [if_neg q] at h';cases h'
end
section
open PySem PySem.Spec
section
variable {prog:Program}{w:World}{A:Around}{E:Value→Shared→Prop}{s:Shared}
theorem zqj {it t:Addr}{i:Nat}{items:Array Value}{x:Value}{Q:Value→Shared→Prop}(hit:s.heap.IsTupleIter it t i)(ht:s.heap.IsTuple t items)(hx:items[i]? = some x)(hQ:∀ h',h'.IsTupleIter it t (i+1)→Heap.SameBut it s.heap h'→Q x {s with heap:=h'}):wpAny (model prog w) A (Builtin.SmallTypes.nextOf (.ref it)) Q E s:=by
 obtain ⟨o,ho,hc,hd⟩:=id hit;obtain ⟨ol,hol,_,nl,hdl⟩:=ht;unfold Builtin.SmallTypes.nextOf;refine wpAny_bind (wpAny_callSpecial?_slot (name:=Str.ofString "__next__") hit.typeIs F.slot_tuple_iterator_next (wpAny_call_entry F.slot_tuple_iterator_next hit.typeIs F.entry_tuple_iterator_next ?_ (F.args_tuple_iterator_next_1 _)));show wpAny _ _ (field (.ref it) 0 >>= _) _ _ s;refine wpAny_bind (wpAny_field ho hd (x:=.ref t) rfl ?_);show wpAny _ _ (if (Value.ref t==Value.none)=true then _ else _) _ _ s;rw [if_neg (show ¬ ((Value.ref t==Value.none)=true) from Bool.false_ne_true)]
 show wpAny _ _ (field (.ref it) 1 >>= _) _ _ s;refine wpAny_bind (wpAny_field ho hd (x:=.int i 0) rfl ?_);show wpAny _ _ (seqItems? (.ref t) >>= _) _ _ s;refine wpAny_bind (wpAny_seqItems hol hdl ?_);simp only [Int.toNat_natCast,hx];refine wpAny_bind (wpAny_setField ho hd (by simp) (wpAny_pure ⟨x,rfl,wpAny_pure (hQ _ ?_ (Heap.SameBut.update ..))⟩))
 exact ⟨_,Heap.get?_update_self _ ho (Obj.isFreed_of_fields (Obj.data_mapFields hd _)),(Obj.cls_mapFields ..).trans hc,by rw [Obj.data_mapFields hd];simp [rawInt]⟩
theorem zs0 {it t:Addr}{i:Nat}{items:Array Value}{Q:Value→Shared→Prop}(hh:A.handled=none)(hit:s.heap.IsTupleIter it t i)(ht:s.heap.IsTuple t items)(hx:items[i]? = none)(hE:∀ h' e,Heap.ExtBut it s.heap h'→(∃ o,h'.get? e=some o∧o.cls=.type "StopIteration")→E (.ref e) {s with heap:=h'}):wpAny (model prog w) A (Builtin.SmallTypes.nextOf (.ref it)) Q E s:=by
 obtain ⟨o,ho,hc,hd⟩:=id hit;obtain ⟨ol,hol,_,nl,hdl⟩:=ht;unfold Builtin.SmallTypes.nextOf;refine wpAny_bind (wpAny_callSpecial?_slot (name:=Str.ofString "__next__") hit.typeIs F.slot_tuple_iterator_next (wpAny_call_entry F.slot_tuple_iterator_next hit.typeIs F.entry_tuple_iterator_next ?_ (F.args_tuple_iterator_next_1 _)));show wpAny _ _ (field (.ref it) 0 >>= _) _ _ s;refine wpAny_bind (wpAny_field ho hd (x:=.ref t) rfl ?_);show wpAny _ _ (if (Value.ref t==Value.none)=true then _ else _) _ _ s;rw [if_neg (show ¬ ((Value.ref t==Value.none)=true) from Bool.false_ne_true)]
 show wpAny _ _ (field (.ref it) 1 >>= _) _ _ s;refine wpAny_bind (wpAny_field ho hd (x:=.int i 0) rfl ?_);show wpAny _ _ (seqItems? (.ref t) >>= _) _ _ s;refine wpAny_bind (wpAny_seqItems hol hdl ?_);simp only [Int.toNat_natCast,hx];refine wpAny_bind (wpAny_rule (wpAny_bind (wpAny_setField ho hd (by simp) ?_)));show wpAny _ _ (newExc (.type "StopIteration") [] >>= _) _ _ _;refine wpAny_bind ?_
 simp only [newExc,newTuple];refine wpAny_bind (wpAny_newObj_type ?_ (by size_fits))
 refine wpAny_bind (m:=firstArgMember _ _) (wpAny_of_eq (a:=Value.none) (by first | rfl | (simp only [firstArgMember];rfl)) ?_);refine wpAny_newObj_type ?_ (by size_fits)
 simp only [raiseNew];refine wpAny_bind (wpAny_handled ?_);first | rw [show A.in1.handled=none from hh] | rw [hh]
 refine wpAny_bind (wpAny_pure (wpAny_throw ?_));exact hE _ _ (((Heap.SameBut.update ..).extBut.push _).push _) ⟨_,Heap.get?_push_size _ rfl,rfl⟩
end
theorem zwo {h h':Heap}{a:Addr}{items:Array Value}(x:h.IsTuple a items)(k:∀ o,h.get? a=some o→h'.get? a=some o):h'.IsTuple a items:=let ⟨o,ho,r⟩:=x;⟨o,k o ho,r⟩
theorem zfd {h h':Heap}{a t:Addr}{i:Nat}(x:h.IsTupleIter a t i)(k:∀ o,h.get? a=some o→h'.get? a=some o):h'.IsTupleIter a t i:=let ⟨o,ho,r⟩:=x;⟨o,k o ho,r⟩
theorem zl7 {prog:Program}{w:World}{A:Around}(hh:A.handled=none)(it t:Addr)(hne:t≠it)(items:Array Value):
  Draws prog w A it [it,t] items.size (fun i v=>items[i]? = some v) (fun i h=>h.IsTupleIter it t i∧h.IsTuple t items) where
 live:=fun _ _ st=>let ⟨o,ho,_⟩:=st.1;⟨o,ho⟩
 frame:=fun _ _ _ st hk=>⟨zfd st.1 fun o e=>hk it (by simp) o e,zwo st.2 fun o e=>hk t (by simp) o e⟩
 item:=fun i s Q E hi st hQ=>by
  refine zqj st.1 st.2 (x:=items[i]) (by simp [hi]) fun h' hit' hs'=>?_
  exact hQ _ h' s.toks (by simp [hi]) ⟨hit',st.2.extBut hs'.extBut hne⟩ hs'
 done:=fun s Q E st hE=>zs0 hh st.1 st.2 (by simp) hE
set_option maxHeartbeats 1000000 in
theorem zpn (l:Addr)(items:Array Value)(n:Nat)(dct:Option Addr)(sl:Array (Option Value)):
  Meets (Builtin.«enumerate.__new__» ⟨[.type "enumerate",.ref l],[]⟩) (fun _ R s=>s.heap.get? l=some {cls:=.type "tuple",dict:=dct,data:=.seq items n,slots:=sl}∧
   R (.ok (.ret (.ref (s.heap.push {cls:=.type "tuple_iterator",data:=.fields #[.ref l,.int 0 0]}).objs.size)))
    {s with heap:=(s.heap.push {cls:=.type "tuple_iterator",data:=.fields #[.ref l,.int 0 0]}).push {cls:=.type "enumerate",data:=.fields #[.none,.bool false,.ref s.heap.objs.size,rawInt 0,.none,.none]}}):=
 .of_wp fun prog w A R s h=>by
  obtain ⟨hp,g,d,tk,os⟩:=s;obtain ⟨hl,h⟩:=h;have hsub:=sub_enumerate;have hL:Heap.IsTuple (Shared.heap ⟨hp,g,d,tk,os⟩) l items:=⟨_,hl,rfl,n,rfl⟩;wp_walk using AutoSeq1.wpAny_loadPart' hl
  refine wpAny_stack_any fun st=>wpAny_pure ?_;split
  ·rename_i c _ _ _ _ _
   cases (c==Value.type "enumerate")
   ·wp_walk using AutoSeq1.wpAny_loadPart' hl,wpAny_pyIter_tuple hL
    exact ⟨_,rfl,h⟩
   ·wp_walk using AutoSeq1.wpAny_loadPart' hl,wpAny_pyIter_tuple hL
    exact ⟨_,rfl,h⟩
  ·wp_walk using AutoSeq1.wpAny_loadPart' hl,wpAny_pyIter_tuple hL
   exact ⟨_,rfl,h⟩
section
variable {prog:Program}{w:World}{A:Around}{E:Value→Shared→Prop}{s:Shared}
theorem zw6 {l:Addr}{items:Array Value}{Q:Value→Shared→Prop}(hL:s.heap.IsTuple l items)(h:∀ h',IsEnum h' (s.heap.objs.size+1) s.heap.objs.size 0 .none→h'.IsTupleIter s.heap.objs.size l 0→h'.objs.size=s.heap.objs.size+2→
   (∀ b o,s.heap.get? b=some o→h'.get? b=some o)→Q (.ref (s.heap.objs.size+1)) {s with heap:=h'}):wpAny (model prog w) A (call (.type "enumerate") [.ref l]) Q E s:=by
 obtain ⟨⟨c,dct,dt,sl⟩,hl,hc,n,hd⟩:=hL;have hc':c=.type "tuple":=hc;have hd':dt=.seq items n:=hd;subst hc' hd';refine callType_new F.called_enumerate (by decide) (F.typeCall_enumerate_1 _) (F.newCall_enumerate_1 _) (fun obj=>F.args_object_init_2 obj _) F.entry_enumerate_new (zpn l items n dct sl) ⟨hl,?_⟩
 have hz:(s.heap.push {cls:=.type "tuple_iterator",data:=.fields #[.ref l,.int 0 0]}).objs.size=s.heap.objs.size+1:=Heap.size_push ..;show _∧_;rw [hz];have he:IsEnum ((s.heap.push {cls:=.type "tuple_iterator",data:=.fields #[.ref l,.int 0 0]}).push {cls:=.type "enumerate",data:=.fields #[.none,.bool false,.ref s.heap.objs.size,rawInt 0,.none,.none]}) (s.heap.objs.size+1) s.heap.objs.size 0 .none:=by
  have:=Heap.get?_push_size (s.heap.push {cls:=.type "tuple_iterator",data:=.fields #[.ref l,.int 0 0]}) (o:={cls:=.type "enumerate",data:=.fields #[.none,.bool false,.ref s.heap.objs.size,rawInt 0,.none,.none]}) rfl;rw [hz] at this;exact this
 exact ⟨⟨_,he,rfl⟩,h _ he ⟨_,Heap.get?_push_of_some _ (Heap.get?_push_size _ rfl),rfl,rfl⟩ (by rw [Heap.size_push,hz]) fun b o x=>Heap.get?_push_of_some _ (Heap.get?_push_of_some _ x)⟩
end
open L2 PyProof.Rows
def IteT (K:PySem.W.Frag)(a:Addr)(xs:List V):It:=
 ⟨fun i H=>SqT K H a xs∧i<xs.length,fun i H v H'=>∃ T x,v=.ref T∧H T=none∧H'=upd H T (.tup [.int (i:Nat),x])∧xs[i]? = some x,fun i H=>SqT K H a xs∧i=xs.length⟩
theorem zvt {P:Program}{w:World}{K:PySem.W.Frag}{elts:List Expr}{kk:Nat}{tpos:Pos}(a e it:Addr)(xs:List V)(hae:a≠it)(hee:a≠e):
  Turn P w K (.Tuple elts kk tpos) (IteT K a xs) [e,it] e (fun i h=>(∃ old,IsEnum h e it ((i:Nat):Int) old)∧h.IsTupleIter it a i∧e≠it) where
 mem:=by simp
 obj:=fun i h st b hb=>by
  obtain ⟨⟨old,he⟩,⟨o,ho,hc,hd⟩,_⟩:=st;have e':b=e∨b=it:=by simpa using hb
  rcases e' with rfl | rfl
  ·exact ⟨_,he,fun v q=>nomatch q⟩
  ·exact ⟨o,ho,fun v q=>by rw [hd] at q;cases q⟩
 keep:=fun i h h' st k=>let ⟨⟨old,he⟩,hi,hne⟩:=st;⟨⟨old,k e (by simp) _ he⟩,zfd hi fun o q=>k it (by simp) o q,hne⟩
 item:=by
  intro X hP hw hK hc i pins s σ H E I hf st hg;subst hP hw hK;obtain ⟨⟨old,he⟩,hit,hne⟩:=st;obtain ⟨hq,hi⟩:=hg;obtain ⟨its,rv,p,hz⟩:=I.tuple hq;have hel:e<s.heap.objs.size:=Heap.lt_size he;have hil:it<s.heap.objs.size:=by obtain ⟨_,q,_⟩:=hit;exact Heap.lt_size q
  have hl:=rv.length;have D:=zl7 (prog:=X.prog) (w:=X.w) (A:=X.A.in1) (I.ok.hd hc) it a hae its.toArray;refine wpAny_pyNext_enum_itemD D he ⟨hit,p⟩ (by simp;omega) hne (by simp [hne,Ne.symm hee]) fun u h' tk hu ho st' hT hsz hk=>?_
  refine ⟨_,rfl,wpAny_letOwnedTupleGo_enum (s:={s with heap:=h',toks:=tk+1}) ho fun h'' he' sb=>?_⟩;have hu':its[i]? = some u:=by simpa using hu
  obtain ⟨x,hx⟩:∃ x,xs[i]? = some x:=⟨xs[i],by simp [hi]⟩
  obtain ⟨u2,hu2,ru⟩:=rv.get hx;rw [hu'] at hu2;cases hu2;have hT2:h''.get? s.heap.objs.size=some {cls:=.type "tuple",data:=.seq #[.int i tk,u]}:=(sb.2 _ (Nat.ne_of_gt hel)).trans hT;have new:ObjOk X.prog X.w (upd H s.heap.objs.size (.tup [.int (i:Nat),x])) h'' s.heap.objs.size (.tup [.int (i:Nat),x]):=
   ⟨by show 2≤sizeLine;decide,[.int i tk,u],.cons ⟨_,rfl⟩ (.cons ru .nil),⟨_,hT2,rfl,_,rfl⟩⟩
  have I1:Inv X pins σ (upd H s.heap.objs.size (.tup [.int (i:Nat),x])) {s with heap:=h'',toks:=tk+1}:=
   I.turnedNew (ch:=[e,it]) (fun b ob hb q=>(sb.2 b (fun z=>hb (by simp [z]))).trans (hk b ob (fun z=>hb (by simp [z])) (fun z=>hb (by simp [z])) q)) hf (Nat.le_refl _) new
  refine ⟨.ref s.heap.objs.size,_,I1,rfl,⟨_,x,rfl,I.hok.fresh (Nat.le_refl _),rfl,hx⟩,⟨⟨u,?_⟩,zfd st'.1 fun o q=>(sb.2 it (Ne.symm hne)).trans q,hne⟩,fun b hb=>?_⟩
  ·have e1:((i+1:Nat):Int)=(i:Int)+1:=by omega
   rw [e1];exact he'
  ·have hb':b<s.heap.objs.size:=by
    have e':b=e∨b=it:=by simpa using hb
    rcases e' with rfl | rfl
    ·exact hel
    ·exact hil
   rw [zac (Nat.ne_of_lt hb')];exact (hf b hb).1
 done:=by
  intro X hP hw hK hc i pins s σ H E I hf st hg;subst hP hw hK;obtain ⟨⟨old,he⟩,hit,hne⟩:=st;obtain ⟨hq,hi⟩:=hg;obtain ⟨its,rv,p,hz⟩:=I.tuple hq;obtain ⟨f0,f1,f2,f3,f4,f5⟩:=hf it (by simp)
  have hl:=rv.length;have D:=zl7 (prog:=X.prog) (w:=X.w) (A:=X.A.in1) (I.ok.hd hc) it a hae its.toArray;have en:i=its.toArray.size:=by simp;omega
  refine wpAny_pyNext_enum_endD D he ⟨en▸hit,p⟩ fun h' eb=>⟨rfl,I.turned (t':=s.toks) (fun b o hb q=>eb b o hb q) f0 f1 f3 f4 f5⟩
 self:=fun A i s Q E st h=>let ⟨⟨_,he⟩,_⟩:=st;wpAny_pyIter_enum he h
def iEnumT (K:PySem.W.Frag)(ta:TA):TI:=fun σ H R=>ta σ H fun vs H1=>∃ a xs,vs=[.ref a]∧SqT K H1 a xs∧R (IteT K a xs) H1
theorem pi_enumT {X:Cx}{e:Expr}{ta:TA}{p pos tpos:Pos}{elts:List Expr}{kk:Nat}(hg:Gl X "enumerate")(hm:X.mg "enumerate"=none)(ha:PA X [e] ta)(hs:starEach [e] X.env=[(false,eval e X.env)]:=by rfl):
  PI X (.Tuple elts kk tpos) (.Call (.Name "enumerate" p) [e] [] pos) (iEnumT X.K ta):=by
 intro pins s σ H R I h;refine Call_ (zj6 I hg hm boot_enumerate (PyProof.Rows.callWith_type1 (thn (ha pos pins s σ H _ I h) fun us s1 ⟨vs,H1,I1,r1,q1⟩=>?_) hs rfl));obtain ⟨a,xs,ex,hq,q⟩:=q1;subst ex;cases r1 with
 | cons r rr=>
  cases rr;cases r;obtain ⟨its,rv,p',hz⟩:=I1.tuple hq;have hal:a<s1.heap.objs.size:=by obtain ⟨o,ho,_⟩:=p';exact Heap.lt_size ho
  refine zw6 p' fun h' he hit hsz hk=>wpAny_pyIter_enum he ?_;have I2:Inv X pins σ H1 {s1 with heap:=h'}:=I1.kept (t':=s1.toks) hk;refine ⟨s1.heap.objs.size+1,[s1.heap.objs.size+1,s1.heap.objs.size],_,_,H1,rfl,I2,zvt a (s1.heap.objs.size+1) s1.heap.objs.size xs (Nat.ne_of_lt hal) (Nat.ne_of_lt (Nat.lt_succ_of_lt hal)),⟨⟨.none,he⟩,hit,Nat.succ_ne_self _⟩,fun b hb=>?_,q⟩;have e':b=s1.heap.objs.size+1∨b=s1.heap.objs.size:=by simpa using hb
  have hle:s1.heap.objs.size≤b:=by
   rcases e' with rfl | rfl
   ·exact Nat.le_add_right _ _
   ·exact Nat.le_refl _
  exact I1.fpOk hle (I1.hok.fresh hle)
theorem for_enumT {K:PySem.W.Frag}{a:Addr}{xs:List V}{g:TG}{tb:TS}{D:Ends}{σ:L2.St}{H:Hp}(Pv:Nat→L2.St→Hp→Prop)(h0:Pv 0 σ H)(hl:∀ i σ H,i≤xs.length→Pv i σ H→SqT K H a xs)(hs:∀ i x σ H T,xs[i]? = some x→Pv i σ H→H T=none→g (.ref T) σ (upd H T (.tup [.int (i:Nat),x])) fun σ2 H2=>tb {D with nx:=Pv (i+1),ct:=Pv (i+1),bk:=D.nx} σ2 H2)(hd:∀ σ H,Pv xs.length σ H→D.nx σ H):
  ∃ W:Nat→Nat→L2.St→Hp→Prop,(∃ m,W 0 m σ H)∧∀ i m σ H,W i m σ H→
   ((IteT K a xs).stop i H∧D.nx σ H)∨((IteT K a xs).go i H∧∃ N:L2.St→Hp→Prop,(∀ σ' H',N σ' H'→∃ m',m'<m∧W (i+1) m' σ' H')∧∀ x H',(IteT K a xs).yld i H x H'→g x σ H' fun σ2 H2=>tb {D with nx:=N,ct:=N,bk:=D.nx} σ2 H2):=by
 refine ⟨fun i m σ H=>m=xs.length - i∧i≤xs.length∧Pv i σ H,⟨xs.length,by simp,Nat.zero_le _,h0⟩,?_⟩
 rintro i m σ H ⟨rfl,hi,p⟩;have q:=hl i σ H hi p;by_cases hlt:i<xs.length
 ·refine .inr ⟨⟨q,hlt⟩,Pv (i+1),fun σ' H' p'=>⟨xs.length - (i+1),by omega,rfl,hlt,p'⟩,fun x H' y=>?_⟩
  obtain ⟨T,z,rfl,hT,rfl,hz⟩:=y;exact hs i z σ H T hz p hT
 ·have e:i=xs.length:=by omega
  exact .inl ⟨⟨q,e⟩,hd σ H (e▸p)⟩
end
section
open PySem PySem.Spec PyProof.Rows L2
open RgCase (Bytes ascii)
def toS (b:Bytes):Str:=⟨(b.map UInt8.toNat).toArray⟩
theorem ziw:∀ {a b:Bytes},a.map UInt8.toNat=b.map UInt8.toNat→a=b
 | [],[],_=>rfl
 | [],_::_,h=>by cases h
 | _::_,[],h=>by cases h
 | x::a,y::b,h=>by
  rw [List.map_cons,List.map_cons] at h;obtain ⟨h1,h2⟩:=List.cons.inj h;rw [UInt8.toNat_inj.mp h1,ziw h2]
theorem zle {a b:Bytes}(h:toS a=toS b):a=b:=by
 unfold toS at h;injection h with h;have h':a.map UInt8.toNat=b.map UInt8.toNat:=by simpa using congrArg Array.toList h
 exact ziw h'
theorem zxo {a b:Bytes}:toS a=toS b↔a=b:=⟨zle,fun h=>h▸rfl⟩
theorem ze1 (a:Bytes):(toS a).length=a.length:=by
 unfold toS;show (List.toArray _).size=_;simp
def top (i:Nat):Stmt:=PySem.Challenge.pw_heardcase_s01_answers.main.body.getD i (.Pass ⟨0,0,0,0⟩)
theorem s_not:Str.ofString "not"=toS (ascii "not"):=by decide +kernel
theorem s_open:Str.ofString "open"=toS (ascii "open"):=by decide +kernel
end
section
open PySem PySem.Spec PyProof.Rows L2
open RgCase (Bytes ascii cutAt)
structure GInt (mg:Str→Option Value)(x:Str)(n:Int):Prop where
 ex:∃ t,mg x=some (.int n t)
structure GStr (mg:Str→Option Value)(x:Str)(n:Str):Prop where
 ex:∃ t,mg x=some (.str n t)
section
variable {X:Cx}
theorem zal {x:Str}{n:Int}{pos:Pos}(h:GInt X.mg x n)(hg:Gl X x:=by rfl)(hd:(x==("__debug__":Str))=false:=by decide):PE X (.Name x pos) (tC (.int n)):=
 let ⟨t,e⟩:=h.ex
 zov hg e ⟨t,rfl⟩ hd
theorem ztl {x:Str}{n:Str}{pos:Pos}(h:GStr X.mg x n)(hg:Gl X x:=by rfl)(hd:(x==("__debug__":Str))=false:=by decide):PE X (.Name x pos) (tC (.str n)):=
 let ⟨t,e⟩:=h.ex
 zov hg e ⟨t,rfl⟩ hd
theorem pe_gref {x:Str}{a:Addr}{pos:Pos}(h:X.mg x=some (.ref a))(hg:Gl X x:=by rfl)(hd:(x==("__debug__":Str))=false:=by decide):PE X (.Name x pos) (tC (.ref a)):=
 zov hg h rfl hd
end
theorem for_str {x:Str}{g:TG}{tb:TS}{D:Ends}{σ:L2.St}{H:Hp}(Pv:Nat→L2.St→Hp→Prop)(h0:Pv 0 σ H)(hs:∀ i c σ H,x.cps[i]? = some c→Pv i σ H→g (.str ⟨#[c]⟩) σ H fun σ2 H2=>tb {D with nx:=Pv (i+1),ct:=Pv (i+1),bk:=D.nx} σ2 H2)(hd:∀ σ H,Pv x.cps.size σ H→D.nx σ H):
  ∃ W:Nat→Nat→L2.St→Hp→Prop,(∃ m,W 0 m σ H)∧∀ i m σ H,W i m σ H→
   ((Its x).stop i H∧D.nx σ H)∨((Its x).go i H∧∃ N:L2.St→Hp→Prop,(∀ σ' H',N σ' H'→∃ m',m'<m∧W (i+1) m' σ' H')∧∀ y H',(Its x).yld i H y H'→g y σ H' fun σ2 H2=>tb {D with nx:=N,ct:=N,bk:=D.nx} σ2 H2):=by
 refine ⟨fun i m σ H=>m=x.cps.size - i∧i≤x.cps.size∧Pv i σ H,⟨x.cps.size,by simp,Nat.zero_le _,h0⟩,?_⟩
 rintro i m σ H ⟨rfl,hi,p⟩;by_cases hlt:i<x.cps.size
 ·refine .inr ⟨hlt,Pv (i+1),fun σ' H' p'=>⟨x.cps.size - (i+1),by omega,rfl,hlt,p'⟩,fun y H' q=>?_⟩
  obtain ⟨e,c,hc,rfl⟩:=q;subst e;exact hs i c σ _ hc p
 ·have e:i=x.cps.size:=by omega
  subst e;exact .inl ⟨Nat.le_refl _,hd σ H p⟩
def tabEnt (w:World)(q:Str×Tok×Addr):DictEntry:=⟨PyData.keyHash w.params q.1,.str q.1 q.2.1,.ref q.2.2⟩
structure Tab (K:PySem.W.Frag)(w:World)(a:Addr)(qs:List (Str×Tok×Addr)):Prop where
 at_:∃ ep,K.lookup a=some {cls:=.type "dict",data:=.dict (qs.map (tabEnt w)).toArray ep}
 nd:(qs.map (·.1)).Nodup
 sys:(a==sysModules)=false
def tabKvs (qs:List (Str×Tok×Addr)):List (Key×Value):=qs.map fun q=>(Sum.inr q.1,.ref q.2.2)
theorem zqp {P:Program}{w:World}:∀ qs:List (Str×Tok×Addr),Pairs (mixKind P w) (qs.map (tabEnt w)) (tabKvs qs)
 | []=>.nil
 | q::r=>.cons (zl3 q.1 q.2.1) rfl (zqp r)
theorem tab_keys (qs:List (Str×Tok×Addr))(h:(qs.map (·.1)).Nodup):((tabKvs qs).map (·.1)).Nodup:=by
 have e:(tabKvs qs).map (·.1)=(qs.map (·.1)).map (Sum.inr:Str→Key):=by
  unfold tabKvs;rw [List.map_map,List.map_map];rfl
 rw [e];refine List.Pairwise.map _ (fun a b hab z=>hab (Sum.inr.inj z)) h
theorem Tab.dict {K:PySem.W.Frag}{P:Program}{w:World}{a:Addr}{qs:List (Str×Tok×Addr)}(T:Tab K w a qs){h:Heap}(X:K.In h):h.DictOf (mixKind P w) a (tabKvs qs):=by
 obtain ⟨ep,e⟩:=T.at_;refine ⟨_,_,ep,X a _ e,⟨rfl,rfl,rfl⟩,rfl,fun e he=>?_,by simpa using zqp qs,tab_keys qs T.nd⟩
 have he':e∈qs.map (tabEnt w):=by simpa using he
 obtain ⟨q,_,rfl⟩:=List.mem_map.mp he';exact ⟨Sum.inr q.1,zl3 q.1 q.2.1,rfl⟩
def tabLook (qs:List (Str×Tok×Addr))(x:Str):V:=match qs.find? fun q=>decide (q.1=x) with
 | some q=>.ref q.2.2
 | none=>.non
theorem zqo:∀ (qs:List (Str×Tok×Addr)) (x:Str),RelV (tabLook qs x) ((valueAt (tabKvs qs) (Sum.inr x)).getD .none)
 | [],x=>rfl
 | q::r,x=>by
  have ih:=zqo r x;unfold tabLook valueAt tabKvs at ih ⊢;rw [List.map_cons,List.find?_cons,List.find?_cons];by_cases e:q.1=x
  ·have e1:decide (q.1=x)=true:=decide_eq_true e;have e2:decide ((Sum.inr q.1:Key)=Sum.inr x)=true:=decide_eq_true (congrArg Sum.inr e);rw [e1,e2];rfl
  ·have e1:decide (q.1=x)=false:=decide_eq_false e;have e2:decide ((Sum.inr q.1:Key)=Sum.inr x)=false:=decide_eq_false fun z=>e (Sum.inr.inj z);rw [e1,e2];exact ih
def tTab (qs:List (Str×Tok×Addr))(ty:TE):TE:=fun σ H Q=>ty σ H fun y H1=>∃ x,y=.str x∧Q (tabLook qs x) H1
theorem pe_tab {X:Cx}{nm:Str}{npos apos cpos:Pos}{e:Expr}{ty:TE}{a:Addr}{qs:List (Str×Tok×Addr)}(T:Tab X.K X.w a qs)(hm:X.mg nm=some (.ref a))(he:PE X e ty)(m:M1 X (.Name nm npos) "get" apos e cpos)(hg:Gl X nm:=by rfl)(hd:(nm==("__debug__":Str))=false:=by decide):PE X (.Call (.Attribute (.Name nm npos) "get" apos) [e] [] cpos) (tTab qs ty):=by
 intro pins s σ H Q I h;have dd:=T.dict (P:=X.prog) I.kIn;refine wpAny_Call_method m.base m.few m.line PySem.F.plainAttrs_dict PySem.F.slot_dict_get PySem.F.type_dict_get (zlz I hg hm ⟨dd.typeIs,fun b q=>?_,?_⟩ hd)
 ·cases q;obtain ⟨ob,_,_,h1,h2,_⟩:=dd;exact ⟨ob,h1,h2.2.1⟩
 ·rw [m.trees];refine Calls.callWith_builtin rfl (Calls.evalArgs_plain (Calls.spliced_cons (thn (he pins s σ H _ I h) fun iv s2 ⟨y,H2,I2,ry,x,ey,q2⟩=>Calls.spliced_nil ?_)));subst ey;have dd2:=T.dict (P:=X.prog) I2.kIn;exact call_meetsIn PySem.F.slot_dict_get dd2.typeIs PySem.F.entry_dict_get (PySem.F.args_dict_get_2 _ _) (meets_dict_get (mixKind X.prog X.w) a (zpj (k:=Sum.inr x) ry) T.sys) ⟨_,dd2.mapOf,_,H2,I2.tok _,zqo qs x,q2⟩
structure TupG (K:PySem.W.Frag)(a:Addr)(xs:List Str):Prop where
 ex:∃ (o:Obj) (its:Array Value) (n:Nat),K.lookup a=some o∧o.cls=.type "tuple"∧o.data=.seq its n∧its.size≤sizeLine∧Vals (xs.map V.str) its.toList
theorem TupG.sq {K:PySem.W.Frag}{a:Addr}{xs:List Str}(h:TupG K a xs)(H:Hp):SqT K H a (xs.map V.str):=.inr h.ex
theorem zs5 {x:UInt8}:∀ (b:Bytes) (acc:List Nat),∃ l m,cutAt x b=l::m∧TL.spl [x.toNat] 0 acc (b.map UInt8.toNat)=(acc++l.map UInt8.toNat)::m.map (·.map UInt8.toNat)
 | [],acc=>⟨[],[],rfl,by rw [List.map_nil,TL.zoi];simp⟩
 | c::r,acc=>by
  have hp:TL.pre [x.toNat] (c.toNat::r.map UInt8.toNat)=decide (c=x):=by
   unfold TL.pre;by_cases e:c=x
   ·subst e;simp
   ·have:c.toNat≠x.toNat:=fun z=>e (UInt8.toNat_inj.mp z);simp [e,this]
  by_cases e:c=x
  ·obtain ⟨l,m,e1,e2⟩:=zs5 (x:=x) r [];refine ⟨[],cutAt x r,by rw [e];exact zaz x r,?_⟩
   rw [List.map_cons,TL.zxs (by rw [hp];exact decide_eq_true e)]
   show acc::TL.spl [x.toNat] 0 [] (r.map UInt8.toNat)=_;rw [e2,e1];simp
  ·obtain ⟨l,m,e1,e2⟩:=zs5 (x:=x) r (acc++[c.toNat]);obtain ⟨l',m',e3,e4⟩:=zay e r;rw [e1] at e3;cases e3;refine ⟨c::l,m,e4,?_⟩;rw [List.map_cons,TL.zup (by rw [hp];exact decide_eq_false e),e2]
   simp
theorem zqr (x:UInt8)(b:Bytes):Txt.split (toS b) (toS [x])=(cutAt x b).map toS:=by
 refine TL.zns ?_;have hk:¬ Builtin.Str.strKind (toS b)<Builtin.Str.strKind (toS [x]):=TL.kind_ok (by
  have:=x.toNat_lt;simp [toS];omega)
 rw [TL.zxr (toS b) (toS [x]) (by simp [toS,TL.tl]) hk]
 obtain ⟨l,m,e1,e2⟩:=zs5 (x:=x) b [];have e3:TL.tl (toS [x])=[x.toNat]:=rfl;have e4:TL.tl (toS b)=b.map UInt8.toNat:=by simp [toS,TL.tl]
 rw [e3,e4,e2,e1,List.map_map];simp only [List.nil_append,List.map_cons,List.cons.injEq];constructor
 ·simp [toS,TL.tl]
 ·refine List.map_congr_left fun w _=>?_;simp [toS,TL.tl]
section
variable {CX:CXT}{P:Program}{w:World}{K:PySem.W.Frag}{mg:Str→Option Value}{base:Heap}{N:List Str}{qual:Str}{scope:Scope}{f:Addr}{cd:Value}{A:Around}{outer:List Env}{s:Shared}{H:Hp}{E:XK}
theorem cxK:(cxOf CX P w K mg base N qual scope f cd A outer s H E).K=K:=rfl
theorem lenS {K:PySem.W.Frag}{y:Str}{H:Hp}{n:Nat}:LenV K (.str y) H n=(n=y.length∧y.length≤sizeLine):=propext ⟨fun h=>⟨h.2,h.1⟩,fun h=>⟨h.2,h.1⟩⟩
theorem scalSS {a b:Str}:scal (.str a) (.str b)=true:=rfl
theorem scalII {a b:Int}:scal (.int a) (.int b)=true:=rfl
end
end
section
open PySem PySem.Spec PyProof.Rows L2
def okIs:Option Key→Value→Bool
 | some k,v=>keyIs k v
 | none,v=>v==Value.none
def okH (w:World):Option Key→Int
 | some k=>keyH w k
 | none=>0xFCA86420
theorem zc3 {v:Value}(h:okIs none v=true):v=Value.none:=eq_of_beq h
theorem zjp {k:Key}{v:Value}(h:keyIs k v=true):RelV (kV k) v∧flatV (kV k)=true∧v≠Value.none:=by
 rcases zbh h with ⟨i,t,rfl,rfl⟩ | ⟨x,t,rfl,rfl⟩
 ·exact ⟨⟨t,rfl⟩,rfl,fun e=>nomatch e⟩
 ·exact ⟨⟨t,rfl⟩,rfl,fun e=>nomatch e⟩
theorem zj8 (k:Key):eqV (kV k) .non=false∧eqV .non (kV k)=false:=by
 cases k <;> exact ⟨rfl,rfl⟩
section
variable {prog:Program}{w:World}{A:Around}{E:Value→Shared→Prop}{s:Shared}
theorem zqa {Q:Int→Shared→Prop}(h:Q 0xFCA86420 {s with toks:=s.toks+1}):wpAny (model prog w) A (pyHash .none) Q E s:=by
 have hT:s.TypeIs .none "NoneType":=rfl;show wpAny (model prog w) A (pyHashByItsType .none) Q E s;unfold pyHashByItsType;have hv:[Value.none].any Value.onHeap=false:=rfl;refine wpAny_bind ?_;rw [cRoomFor,if_neg (by rw [hv];exact Bool.false_ne_true)]
 refine wpAny_pure ?_;refine wpAny_bind (wpAny_specialOf hT F.slot_NoneType_hash.lookup ?_);show wpAny _ _ (if (some (Value.builtin "NoneType.__hash__")==some Value.none)=true then _ else _) Q E s
 rw [if_neg (by rw [beq_builtin_none];exact Bool.false_ne_true)]
 refine wpAny_bind (wpAny_specialOf hT F.slot_NoneType_hash.lookup ?_);show wpAny _ _ (callSpecialIfBoundUnlessNone? .none "__hash__" _ >>= _) Q E s;refine wpAny_bind (wpAny_callSpecialIfBoundUnlessNone?_slot hT F.slot_NoneType_hash
  (wpAny_call_entry F.slot_NoneType_hash hT F.entry_NoneType_hash
   (show wpAny _ _ (do ret (←mkInt 0xFCA86420)) _ _ s from wpAny_ret_mkInt ?_) (F.args_NoneType_hash_1 _)))
 exact wpAny_pure h
end
def optKind (prog:Program)(w:World):PySem.KeyKind prog w (Option Key) where
 is:=okIs
 hash:=okH w
 inj:=fun v a b ha hb=>by
  cases a with
  | none=>
   cases b with
   | none=>rfl
   | some k=>exact absurd (zc3 ha) (zjp hb).2.2
  | some j=>
   cases b with
   | none=>exact absurd (zc3 hb) (zjp ha).2.2
   | some k=>rw [(mixKind prog w).inj v j k ha hb]
 byValue:=fun k v h=>by
  cases k with
  | none=>rw [zc3 h];rfl
  | some k=>exact (mixKind prog w).byValue k v h
 pyHash:=fun {A E s k v Q} hv h=>by
  cases k with
  | none=>rw [zc3 hv];exact zqa h
  | some k=>exact (mixKind prog w).pyHash (k:=k) hv h
 eqBool:=fun {A E s a b u v Q} hu hv h=>by
  cases a with
  | none=>
   have eu:=zc3 hu;subst eu;cases b with
   | none=>
    have ev:=zc3 hv;subst ev;exact SeqAt.EqAt.same (A:=A) (s:=s) Value.none prog w E Q h
   | some k=>
    obtain ⟨r,f,_⟩:=zjp hv;have:=zvd (A:=A) (s:=s) (y:=.non) (x:=kV k) (u:=Value.none) (v:=v) rfl r rfl f;rw [(zj8 k).2] at this;exact this prog w E Q h
  | some j=>
   cases b with
   | none=>
    have ev:=zc3 hv;subst ev;obtain ⟨r,f,_⟩:=zjp hu;have:=zvd (A:=A) (s:=s) (y:=kV j) (x:=.non) (u:=u) (v:=Value.none) r rfl f rfl;rw [(zj8 j).1] at this;exact this prog w E Q h
   | some k=>
    refine (mixKind prog w).eqBool (a:=j) (b:=k) hu hv ?_;have e:decide ((some j:Option Key)=some k)=decide (j=k):=by simp
    rw [←e];exact h
 «strs»:=fun k x t v h=>by
  cases k with
  | none=>exact absurd (zc3 h) (fun e=>nomatch e)
  | some k=>exact (mixKind prog w).«strs» k x t v h
theorem optMap {prog:Program}{w:World}{h:Heap}{a:Addr}{vs:List (Key×Value)}(dd:h.DictOf (mixKind prog w) a vs):∃ f,h.MapOf (optKind prog w) a f∧f none=none:=by
 obtain ⟨o,es,ep,ho,hc,hd,hk,_⟩:=dd.mapOf;refine ⟨fun k=>findBy (optKind prog w).is es k,⟨o,es,ep,ho,hc,hd,fun e he=>?_,fun k=>rfl⟩,?_⟩
 ·obtain ⟨k,h1,h2⟩:=hk e he;exact ⟨some k,h1,h2⟩
 ·show (es.find? fun e=>okIs none e.key).map (·.val)=none;have:(es.find? fun e=>okIs none e.key)=none:=by
   rw [Array.find?_eq_none];intro e he z;obtain ⟨k,h1,_⟩:=hk e he;exact (zjp h1).2.2 (zc3 z)
  rw [this];rfl
def tDInO (ty td:TE):TE:=fun σ H Q=>ty σ H fun y H1=>td σ H1 fun x H2=>∃ a,x=.ref a∧((∃ o,DGet H2 a y o∧Q (.bl o.isSome) H2)∨(y=.non∧(∃ kvs,H2 a=some (.dK kvs))∧Q (.bl false) H2))
section
variable {X:Cx}{o i e f:Expr}{apos cpos:Pos}{td ty tx:TE}
theorem pc_dinO (hu:X.A.units+1<cLine)(hi:PE X i ty)(ho:PE X o td):PC X .In i o (tDInO ty td):=by
 intro pins s σ H Q I h;refine thn (hi pins s σ H _ I h) fun iv s1 ⟨y,H1,I1,ry,q1⟩=>thn (ho pins s1 σ H1 _ I1 q1) fun u s2 ⟨x,H2,I2,rx,a,ex,q2⟩=>?_;subst ex;obtain rfl:u=Value.ref a:=rx;rcases q2 with ⟨ov,g,q2⟩ | ⟨ey,⟨kvs,hk⟩,q2⟩
 ·exact d_in hu I2 g ry fun s3 I3=>⟨.bl ov.isSome,H2,I3,rfl,q2⟩
 ·subst ey;obtain rfl:iv=Value.none:=ry;obtain ⟨z,hd,vs,rel,dd⟩:=dk_of I2.hok hk;obtain ⟨f,hm,hn⟩:=optMap dd;refine wpAny_in_of (knd:=optKind X.prog X.w) (k:=none) rfl hd hm ?_;rw [hn];exact ⟨.bl false,H2,I2.tok _,rfl,q2⟩
def tDSetd (td ty tx:TE):TE:=fun σ H Q=>td σ H fun x H1=>∃ a,x=.ref a∧IsD H1 a∧ty σ H1 fun y H2=>tx σ H2 fun z H3=>∃ kvs k,H3 a=some (.dK kvs)∧y=kV k∧kvs.length<sizeLine∧
 (∀ v,valV kvs k=some v→Q v H3)∧(valV kvs k=none→Q z (upd H3 a (.dK (putK kvs k z))))
theorem pe_dsetd (hu:X.A.units+1<cLine)(ho:PE X o td)(he:PE X e ty)(hf:PE X f tx)(m:M2 X o "setdefault" apos e f cpos):PE X (.Call (.Attribute o "setdefault" apos) [e,f] [] cpos) (tDSetd td ty tx):=by
 intro pins s σ H Q I h;refine wpAny_Call_method m.base m.few m.line PySem.F.plainAttrs_dict PySem.F.slot_dict_setdefault PySem.F.type_dict_setdefault (thn (ho pins s σ H _ I h) fun u s1 ⟨x,H1,I1,rx,a,ex,d,q1⟩=>?_);subst ex;obtain rfl:u=Value.ref a:=rx;obtain ⟨t1,t2,_⟩:=isD_at I1 d;refine ⟨t1,t2,?_⟩;rw [m.trees];refine Calls.callWith_builtin rfl (Calls.evalArgs_plain (Calls.spliced_cons (thn (he pins s1 σ H1 _ I1 q1) fun iv s2 ⟨y,H2,I2,ry,q2⟩=>
  Calls.spliced_cons (thn (hf pins s2 σ H2 _ I2 q2) fun fv s3 ⟨z,H3,I3,rz,kvs,k,e3,ey,hl,h1,h2⟩=>Calls.spliced_nil ?_))))
 subst ey;obtain ⟨zz,hd,vs,rel,dd⟩:=dk_of I3.hok e3;have hz:vs.length≤sizeLine:=by rw [←rel.length];exact zz
 refine call_meetsIn PySem.F.slot_dict_setdefault dd.typeIs PySem.F.entry_dict_setdefault (PySem.F.args_dict_setdefault_3 _ _ _) (kt_meets_setdefault (mixKind X.prog X.w) a (zpj ry) hd fv) ⟨vs,dd,hz,fun v hv=>?_,fun hn h' dd' hs=>?_⟩
 ·have r:=rel.val k;rw [hv] at r;cases hq:valV kvs k with
  | none=>rw [hq] at r;exact (show False from r).elim
  | some y=>
   rw [hq] at r;exact ⟨y,H3,I3.tok _,r,h1 y hq⟩
 ·have r:=rel.val k;rw [hn] at r;have hq:valV kvs k=none:=by
   cases hq:valV kvs k with
   | none=>rfl
   | some y=>rw [hq] at r;exact (show False from r).elim
  have hl2:(putK kvs k z).length≤sizeLine:=by have:=zh8 kvs k z;omega
  have he':∃ q,h'.get? a=some q:=let ⟨q,_,_,hq,_⟩:=dd';⟨q,hq⟩
  exact ⟨z,_,zuc I3 (by rw [e3];exact True.intro) hs he' (dk_new hl2 hd (rel.put k rz) dd'),rz,h2 hq⟩
theorem mt_bits:MtR X "int.bit_length" (fun x xs H Q=>∃ i:Int,x=.int i∧xs=[]∧Q (.int (Builtin.Int.intBits i:Nat)) H):=by
 intro pins s σ H x xs v us Q I rx rxs h;obtain ⟨i,rfl,rfl,q⟩:=h;obtain ⟨t,rfl⟩:=rx;cases rxs;refine call_gives PySem.F.slot_int_bit_length (typeIs_int s i t) PySem.F.entry_int_bit_length (PySem.F.args_int_bit_length_1 _) (AutoIntG2.int_bit_length_int_0 i t) ?_;exact ⟨.int _,H,I.tok _,⟨_,rfl⟩,q⟩
end
end
section
open PySem PySem.Spec PyProof.Rows L2
def bestArr:Option (Int×Tok)→Array Value
 | none=>#[]
 | some x=>#[.int x.1 x.2,.int x.1 x.2]
def Best (val:Nat→Int)(j:Nat):Option (Int×Tok)→Prop
 | none=>j=0
 | some x=>(∃ i,i<j∧val i=x.1)∧∀ i,i<j→val i≤x.1
theorem gt_int {prog:Program}{w:World}{A:Around}{E:Value→Shared→Prop}{s:Shared}{a b:Int}{t u:Tok}{Q:Value→Shared→Prop}(h:Q (.bool (decide (a>b))) s):wpAny (model prog w) A (richCompare .Gt (.int a t) (.int b u)) Q E s:=
 CmpOf.ints_gt (P:=fun i v=>∃ t,v=Value.int (if i=0 then a else b) t) (fun i=>if i=0 then a else b) (fun _ _ h=>h) 0 1 _ _ s Q E ⟨t,rfl⟩ ⟨u,rfl⟩ h
section
variable {prog:Program}{w:World}{A:Around}{R:Result→Shared→Prop}{I:Addr}{fp wr:List Addr}{n:Nat}{P:Nat→Value→Prop}{St:Nat→Heap→Prop}
theorem mx_loop (W:Walks prog w A.in1 I fp wr n P St)(val:Nat→Int)(hval:∀ i v,P i v→∃ t,v=.int (val i) t)(S:Addr)(hSf:S∉fp)(d:Value):
  ∀ (k j:Nat) (s:Shared) (best:Option (Int×Tok)) (c:Nat),n - j=k→j≤n→St j s.heap→Best val j best→
  s.heap.get? S=some {cls:=.type "list",dict:=none,data:=.seq (bestArr best) c,slots:=#[]}→
  (∀ (o:Option (Int×Tok)) h' tk,Best val n o→(∀ b x,b∉wr→b≠S→s.heap.get? b=some x→h'.get? b=some x)→R (.ok (.ret (match o with | none=>d | some x=>.int x.1 x.2))) {s with heap:=h',toks:=tk})→
  codeAny (model prog w) A (.builtin "max.loop" ⟨[.ref I,.none,.ref S],[(Str.ofString "default",d)]⟩) R s:=by
 have hSw:S∉wr:=fun h=>hSf (W.sub _ h);have hnm:(toString "max"++toString ".loop":String)="max.loop":=by decide
 intro k;induction k with
 | zero=>
  intro j s best c hk hj st hb hS hR;have hjn:j=n:=by omega
  subst hjn;refine codeAny_builtin F.entry_max_loop (Around.under_plainId (A:=A) F.plain_max_loop _▸?_);show wpAny _ A.in1 (seqItems? (.ref S) >>= _) _ _ s;refine wpAny_bind (wpAny_seqItems hS rfl (wpAny_bind (wpAny_tryCatch (W.done s _ _ st fun h1 tk1 hk1=>?_))));have hS1:=hk1 S _ hSw hS;cases best with
  | none=>exact wpAny_bind (wpAny_rule (wpAny_pure (hR none h1 tk1 hb fun b x hbw _ e=>hk1 b x hbw e)))
  | some x=>
   refine wpAny_bind (wpAny_updateSeq (hz:=show 2≤sizeLine by decide) hS1 rfl (wpAny_bind (wpAny_letGo (wpAny_pure (hR (some x) _ tk1 hb fun b y hbw hbS e=>?_)))))
   exact (Heap.get?_update_other _ _ (Ne.symm hbS)).trans (hk1 b y hbw e)
 | succ k ih=>
  intro j s best c hk hj st hb hS hR;have hjn:j<n:=by omega
  refine codeAny_builtin F.entry_max_loop (Around.under_plainId (A:=A) F.plain_max_loop _▸?_);show wpAny _ A.in1 (seqItems? (.ref S) >>= _) _ _ s;refine wpAny_bind (wpAny_seqItems hS rfl (wpAny_bind (wpAny_tryCatch (W.item j s _ _ hjn st fun v h1 tk1 hP st1 hk1=>?_))));have hS1:=hk1 S _ hSw hS;obtain ⟨t,rfl⟩:=hval j v hP;have upd':∀ f:Array Value→Array Value,St (j+1) (h1.update S (Obj.mapSeq f)):=fun f=>W.frame _ _ _ st1 fun b hbf o e=>(Heap.get?_update_other _ _ (fun z:S=b=>hSf (by rw [z];exact hbf))).trans e
  cases best with
  | none=>
   have hj0:j=0:=hb;subst hj0;refine wpAny_bind (wpAny_pure (wpAny_bind (wpAny_updateSeq hS1 rfl ?_)));rw [hnm];refine wpAny_pure ⟨plainId_quiet F.plain_max_loop _,ih 1 _ (some (val 0,t)) _ (by omega) hjn (upd' _) ⟨⟨0,by omega,rfl⟩,fun i hi=>by rw [show i=0 by omega];exact Int.le_refl _⟩ (Heap.get?_update_self _ hS1 rfl) fun o h2 tk2 ho hk2=>?_⟩
   exact hR o h2 tk2 ho fun b x hbw hbS e=>hk2 b x hbw hbS ((Heap.get?_update_other _ _ (Ne.symm hbS)).trans (hk1 b x hbw e))
  | some x=>
   obtain ⟨⟨i0,hi0,e0⟩,hmax⟩:=hb;refine wpAny_bind (wpAny_pure (wpAny_bind (wpAny_tryCatch (wpAny_holding (wpAny_bind (gt_int ?_))))));refine wpAny_bind (wpAny_holding (wpAny_truthy_bool (wpAny_bind (wpAny_letGo (wpAny_pure ?_)))));by_cases hgt:val j>x.1
   ·have e1:decide (val j>x.1)=true:=decide_eq_true hgt;simp only [e1,if_true];refine wpAny_bind (wpAny_updateSeq (hz:=show 2≤sizeLine by decide) hS1 rfl (wpAny_bind (wpAny_letGo ?_)))
    rw [hnm];refine wpAny_pure ⟨plainId_quiet F.plain_max_loop _,ih (j+1) _ (some (val j,t)) _ (by omega) hjn (upd' _) ⟨⟨j,by omega,rfl⟩,fun i hi=>?_⟩ (Heap.get?_update_self _ hS1 rfl) fun o h2 tk2 ho hk2=>?_⟩
    ·by_cases hij:i=j
     ·rw [hij];exact Int.le_refl _
     ·have h3:=hmax i (by omega)
      show val i≤val j;omega
    ·exact hR o h2 tk2 ho fun b y hbw hbS e=>hk2 b y hbw hbS ((Heap.get?_update_other _ _ (Ne.symm hbS)).trans (hk1 b y hbw e))
   ·have e1:decide (val j>x.1)=false:=decide_eq_false hgt;simp only [e1,Bool.false_eq_true,if_false];refine wpAny_bind (wpAny_letGo ?_);rw [hnm];refine wpAny_pure ⟨plainId_quiet F.plain_max_loop _,ih (j+1) _ (some x) c (by omega) hjn st1 ⟨⟨i0,by omega,e0⟩,fun i hi=>?_⟩ hS1 fun o h2 tk2 ho hk2=>?_⟩
    ·by_cases hij:i=j
     ·rw [hij];omega
     ·exact hmax i (by omega)
    ·exact hR o h2 tk2 ho fun b y hbw hbS e=>hk2 b y hbw hbS (hk1 b y hbw e)
end
theorem args_maxD (a d:Value):argsOk "max" ⟨[a],[(Str.ofString "default",d)]⟩:=by unfold argsOk;kernel_rfl
section
variable {prog:Program}{w:World}{A:Around}{E:Value→Shared→Prop}{s:Shared}
theorem ztx {l:Addr}{its:List Value}{ns:List Int}{d:Value}{Q:Value→Shared→Prop}(hh:A.handled=none)(hl:s.heap.IsList l its.toArray)(hi:IntsAre its ns)(h0:ns=[]→∀ h' tk,(∀ b o,s.heap.get? b=some o→h'.get? b=some o)→Q d {s with heap:=h',toks:=tk})(h1:∀ h' tk M t',(∀ b o,s.heap.get? b=some o→h'.get? b=some o)→M∈ns→(∀ a,a∈ns→a≤M)→Q (.int M t') {s with heap:=h',toks:=tk}):
  wpAny (model prog w) A (call (.builtin "max") [.ref l] [(Str.ofString "default",d)]) Q E s:=by
 obtain ⟨xs,e⟩:=hi.allInts.items;have hn:numsOf (intItems xs).toList=ns:=by rw [←e];exact hi.numsOf
 rw [nums_intItems] at hn;subst hn;rw [e] at hl;have hnm:(toString "max"++toString ".loop":String)="max.loop":=by decide
 have tree:wpAny (model prog w) A.in1 (Builtin.«max» ⟨[.ref l],[(Str.ofString "default",d)]⟩) (fun fin s'=>match fin with
   | .done f=>(match (Except.ok f:Result) with | .ok (.ret v)=>Q v s' | .ok _=>False | .error e=>E e s')
   | .again c'=>c'.quiet=true∧codeAny (model prog w) A c' (fun r s'=>match r with | .ok (.ret v)=>Q v s' | .ok _=>False | .error e=>E e s') s') E s:=by
  show wpAny _ A.in1 (Builtin.Builtins.bindParams "max" ["key","default"] 0 ⟨[],[(Str.ofString "default",d)]⟩ >>= _) _ _ s;refine wpAny_bind (wpAny_of_eq (show Builtin.Builtins.bindParams "max" ["key","default"] 0 ⟨[],[(Str.ofString "default",d)]⟩=pure [none,some d] from rfl) (wpAny_bind (wpAny_pure ?_)))
  refine wpAny_bind (iter_intList hl fun s2 e2 st hfp hlI=>?_);subst e2;refine wpAny_bind (wpAny_newObj_type ?_);rw [hnm];have hSf:(s.heap.push {cls:=.type "list_iterator",data:=.fields #[.ref l,.int 0 0]}).objs.size∉[s.heap.objs.size,l]:=fun hm=>Nat.lt_irrefl _ (hfp _ hm);have W:=Walks.list (prog:=prog) (w:=w) (A:=A.in1) hh s.heap.objs.size l hlI (intItems xs);refine wpAny_pure ⟨plainId_quiet F.plain_max_loop _,mx_loop W (numAt xs) (fun _ _=>intItems_at) _ hSf d _ 0 _ none _ rfl (Nat.zero_le _) (W.frame _ _ _ st fun b _ o e=>Heap.get?_push_of_some _ e) rfl (Heap.get?_push_size _ rfl) fun o h' tk ho hk=>?_⟩;have kept:∀ b x,s.heap.get? b=some x→h'.get? b=some x:=old_kept (l:=l) fun b x hb e=>hk b x hb (Nat.ne_of_lt (Heap.lt_size e)) (Heap.get?_push_of_some _ e);have hsz:(intItems xs).size=xs.size:=by simp [intItems]
  cases o with
  | none=>
   have hz:(intItems xs).size=0:=ho;refine h0 ?_ h' tk kept;rw [List.map_eq_nil_iff];have:xs.size=0:=by omega
   simpa using this
  | some x=>
   obtain ⟨⟨i,hi,e1⟩,hm⟩:=ho;refine h1 h' tk x.1 x.2 kept ?_ fun a ha=>?_
   ·rw [←e1,numAt_eq];exact PySem.getD_mem (by rw [List.length_map,Array.length_toList];omega)
   ·obtain ⟨j,hj,rfl⟩:=mem_getD ha;rw [List.length_map,Array.length_toList] at hj;rw [←numAt_eq];exact hm j (by omega)
 refine wpAny_call (codeAny_call_builtin F.plain_max F.entry_max ?_);simp only [checkBuiltinCall,F.kind_max];cases hsig:Manifest.signature? "max" with
 | none=>exact wpAny_pure tree
 | some sig=>
  have ha':Bind.checkArgs "max" sig ⟨[.ref l],[(Str.ofString "default",d)]⟩=pure ():=by simpa only [argsOk,hsig] using args_maxD (.ref l) d
  simp only [ha'];exact wpAny_pure tree
end
def tMaxD (K:PySem.W.Frag)(t u:TA):TE:=fun σ H Q=>t σ H fun xs H1=>u σ H1 fun ys H2=>∃ (a:Addr) (ns:List Int) (d:V),xs=[.ref a]∧ys=[d]∧SqL K H2 a (ns.map V.int)∧(ns=[]→Q d H2)∧∀ m,m∈ns→(∀ y,y∈ns→y≤m)→Q (.int m) H2
theorem pe_maxD {X:Cx}{x:Str}{p pos kpos:Pos}{e f:Expr}{t u:TA}(hc:X.calm=true)(hg:Gl X x)(hm:X.mg x=none)(hv:bootBuiltins x=some (.builtin "max"))(ha:PA X [e] t)(hk:PK X [⟨some (Str.ofString "default"),f,kpos⟩] u)(hn:x≠"__name__":=by decide)(hdb:(x==("__debug__":Str))=false:=by decide)(he:backTo pos (starEach [e] X.env)=(false,eval e X.env)::backTo pos (starEach [] X.env):=by rfl)(hpl:(backTo pos (starEach [e] X.env)).any (·.1)=false:=by rfl):PE X (.Call (.Name x p) [e] [⟨some (Str.ofString "default"),f,kpos⟩] pos) (tMaxD X.K t u):=by
 intro pins s σ H Q I h;refine wpAny_Call_Name_kw (zj6 I hg hm hv ?_ hn hdb);refine callWith_kw (thn (ha pos pins s σ H _ I h) fun us s1 ⟨xs,H1,I1,r1,q1⟩=>thn (hk pos pins s1 σ H1 _ I1 q1) fun ws s2 ⟨ys,H2,I2,r2,a,ns,d,ex,ey,hs,k0,k1⟩=>?_) he hpl;subst ex ey;obtain ⟨its,rv,hl,_⟩:=I2.list hs;rw [Vals.ref1 r1];obtain ⟨dv,rfl,rd⟩:=r2.one;show wpAny (model X.prog X.w) X.A (call (.builtin "max") [.ref a] [(Str.ofString "default",dv)]) _ _ s2;exact ztx (I2.ok.hd hc) hl.isList rv.ints (fun hz h' tk hk'=>⟨d,H2,I2.kept hk',rd,k0 hz⟩) fun h' tk m t' hk' h1 h2=>⟨.int m,H2,I2.kept hk',⟨_,rfl⟩,k1 m h1 h2⟩
end
section
open PySem PySem.Spec PyProof.Rows L2
theorem zxg:∀ {xs:List V} {us:List Value},xs.length=us.length→(∀ (i:Nat) x u,xs[i]? = some x→us[i]? = some u→RelV x u)→Vals xs us
 | [],[],_,_=>.nil
 | [],_::_,h,_=>by cases h
 | _::_,[],h,_=>by cases h
 | x::xs,u::us,h,k=>.cons (k 0 x u rfl rfl) (zxg (by simpa using h) fun i y z e1 e2=>k (i+1) y z (by simpa using e1) (by simpa using e2))
theorem zm4 {X:Cx}(hc:X.calm=true):CallR X (.type "list") (fun xs H Q=>∃ p kvs,xs=[.ref p]∧H p=some (.dK kvs)∧∀ l,H l=none→Q (.ref l) (upd H l (.lst (kvs.map fun kv=>kV kv.1)))):=by
 intro pins s σ H xs us Q I r h;obtain ⟨p,kvs,rfl,hp,q⟩:=h;rw [Vals.ref1 r];obtain ⟨z,hd,vs,rel,dd⟩:=dk_of I.hok hp;obtain ⟨ep,da⟩:=dd.dictAt;have hl:kvs.length=vs.length:=rel.length;refine PySem.W.kdl_call (PySem.W.kdl_dict (knd:=mixKind X.prog X.w) (kvs:=vs) (ep:=ep) hd) (I.ok.hd hc) da (by rw [←hl];exact z) fun h' tk acc c hk hS hacc=>?_
 have rv:Vals (kvs.map fun kv=>kV kv.1) acc.toList:=by
  refine zxg (by rw [List.length_map,hl,Array.length_toList];exact hacc.1.symm) fun i x u e1 e2=>?_
  obtain ⟨k,y,e3,e4⟩:=hacc.2 i u (by rw [←Array.getElem?_toList];exact e2)
  rw [List.getElem?_map] at e1;cases e5:kvs[i]? with
  | none=>rw [e5] at e1;cases e1
  | some kv=>
   rw [e5] at e1;cases e1;obtain ⟨b,hb,hr⟩:=zcu rel e5;rw [e3] at hb;cases hb;show L2.RelV (kV kv.1) u;rw [hr.1];exact (zjp e4).1
 refine ⟨.ref s.heap.objs.size,_,I.laid (t':=tk) hk (Nat.le_refl _) (show ObjOk X.prog X.w _ h' _ (.lst (kvs.map fun kv=>kV kv.1)) from ⟨by rw [List.length_map];exact z,acc.toList,c,rv,by rw [Array.toArray_toList];exact hS⟩),rfl,q _ (I.hok.fresh (Nat.le_refl _))⟩
end
section
open PySem PySem.Spec PyProof.Rows L2
theorem ls1 {Q:List Value→Prop}(h:∀ a,Q [a]):∀ us:List Value,us.length=1→Q us
 | [a],_=>h a
theorem ls2 {Q:List Value→Prop}(h:∀ a b,Q [a,b]):∀ us:List Value,us.length=2→Q us
 | [a,b],_=>h a b
theorem ls3 {Q:List Value→Prop}(h:∀ a b c,Q [a,b,c]):∀ us:List Value,us.length=3→Q us
 | [a,b,c],_=>h a b c
theorem ls4 {Q:List Value→Prop}(h:∀ a b c d,Q [a,b,c,d]):∀ us:List Value,us.length=4→Q us
 | [a,b,c,d],_=>h a b c d
structure DefAt (K:PySem.W.Frag)(mg:Str→Option Value)(x:Str)(st:Stmt):Prop where
 ex:∃ f fd,Fun K x x st f fd∧mg x=some (.ref f)
structure Own (P:Program)(w:World)(K:PySem.W.Frag)(mg:Str→Option Value)(base:Heap)(x:Str)(k:Nat)(ps:List Str)(sp:Sp):Prop where
 ex:∃ f fd,FnOk P w K mg base CX0 k f fd ps sp∧mg x=some (.ref f)∧PySem.W.keepIn K (.ref f)=true∧Binds K fd ps []
structure MethAt (K:PySem.W.Frag)(C:Addr)(m qual:Str)(st:Stmt):Prop where
 ex:∃ f fd,Fun K m qual st f fd∧Meth K C m f
structure OwnM (P:Program)(w:World)(K:PySem.W.Frag)(mg:Str→Option Value)(base:Heap)(C:Addr)(m:Str)(k:Nat)(ps:List Str)(sp:Sp):Prop where
 ex:∃ f fd,FnOk P w K mg base CX0 k f fd ps sp∧Meth K C m f∧Binds K fd ps []
structure ClassAt (K:PySem.W.Frag)(mg:Str→Option Value)(x:Str)(C:Addr)(qual:Str)(st:Stmt):Prop where
 ex:∃ f fd,Fun K "__init__" qual st f fd∧Mk K C f∧mg x=some (.ref C)
 cl:Cls K C
structure OwnC (P:Program)(w:World)(K:PySem.W.Frag)(mg:Str→Option Value)(base:Heap)(x:Str)(C:Addr)(k:Nat)(ps:List Str)(sp:Sp):Prop where
 ex:∃ f fd,FnOk P w K mg base CX0 k f fd ps sp∧Mk K C f∧mg x=some (.ref C)∧Binds K fd ps []
section
variable {X:Cx}{k:Nat}{C:Addr}{ps:List Str}{sp:Sp}{x m:Str}{p pos apos:Pos}{e o:Expr}{es:List Expr}{ta:TE}{t:TA}
theorem zar (O:Own X.prog X.w X.K X.mg X.base x k ps sp)(hr:Room k X.A)(ha:PA X (e::es) t)(hg:Gl X x:=by rfl)(hdb:(x==("__debug__":Str))=false:=by decide)(he:starEach (e::es) X.env=(false,eval e X.env)::starEach es X.env:=by rfl)(hpl:(backTo pos (starEach es X.env)).any (·.1)=false:=by rfl):PE X (.Call (.Name x p) (e::es) [] pos) (tCall sp [] E0 t):=by
 obtain ⟨f,fd,F,hm,hk,hb⟩:=O.ex;exact pe_call F hr hg hm hk hb .nil pass0 ha hdb he hpl
theorem pe_newc (O:OwnC X.prog X.w X.K X.mg X.base x C k ps sp)(hr:Room (k+1) X.A)(ha:PA X (e::es) t)(hg:Gl X x:=by rfl)(hdb:(x==("__debug__":Str))=false:=by decide)(he:starEach (e::es) X.env=(false,eval e X.env)::starEach es X.env:=by rfl)(hpl:(backTo pos (starEach es X.env)).any (·.1)=false:=by rfl):PE X (.Call (.Name x p) (e::es) [] pos) (tMake C sp [] E0 t):=by
 obtain ⟨f,fd,F,M,hm,hb⟩:=O.ex;exact pe_make M F hr hg hm hb .nil pass0 ha hdb he hpl
theorem zf2 (O:OwnC X.prog X.w X.K X.mg X.base x C k ps sp)(hr:Room (k+1) X.A)(hg:Gl X x:=by rfl)(hdb:(x==("__debug__":Str))=false:=by decide):PE X (.Call (.Name x p) [] [] pos) (tMake C sp [] E0 tNil):=by
 obtain ⟨f,fd,F,M,hm,hb⟩:=O.ex;exact pe_make0 M F hr hg hm hb .nil pass0 hdb
theorem zcl {pl:Sem Bool}(O:OwnM X.prog X.w X.K X.mg X.base C m k ps sp)(c:Cls X.K C)(hr:Room k X.A)(he:PE X o ta)(ha:PA X (e::es) t)(hst:starEach (e::es) X.env=(false,eval e X.env)::starEach es X.env:=by rfl)(hpl:(backTo pos (starEach es X.env)).any (·.1)=false:=by rfl)(ht:eval (.Call (.Attribute o m apos) (e::es) [] pos) X.env=(do
   let ov←eval o X.env;standAt apos.atName;let (f,first)←holding [ov] (getMethod ov m pl)
   callWith pos f first (backTo pos (starEach (e::es) X.env)) (backToKw pos (keywordEach [] X.env))):=by rfl):PE X (.Call (.Attribute o m apos) (e::es) [] pos) (tMeth C m sp [] E0 ta t):=by
 obtain ⟨f,fd,F,M,hb⟩:=O.ex;exact pe_meth he c M F hr hb .nil pass0 ha hst hpl ht
theorem zu1 {pl:Sem Bool}(O:OwnM X.prog X.w X.K X.mg X.base C m k ps sp)(c:Cls X.K C)(hr:Room k X.A)(he:PE X o ta)(ht:eval (.Call (.Attribute o m apos) [] [] pos) X.env=(do
   let ov←eval o X.env;standAt apos.atName;let (f,first)←holding [ov] (getMethod ov m pl)
   callWith pos f first (backTo pos (starEach [] X.env)) (backToKw pos (keywordEach [] X.env))):=by rfl):PE X (.Call (.Attribute o m apos) [] [] pos) (tMeth C m sp [] E0 ta tNil):=by
 obtain ⟨f,fd,F,M,hb⟩:=O.ex;exact pe_meth0 he c M F hr hb .nil pass0 ht
end
section
variable {P:Program}{w:World}{K:PySem.W.Frag}{mg:Str→Option Value}{base:Heap}{x m qual:Str}{st:Stmt}{N ps:List Str}{k:Nat}{sp:Sp}{C:Addr}
abbrev BindOk (x qual:Str)(st:Stmt)(ps:List Str):Prop:=∀ (kV doc pm:Value) (an:Option Addr) (cdv ct:Value) (us:List Value),us.length=ps.length→bindArgs (PySem.W.fnOf x qual (defArgs st) (defBody st) (defScope st) .none kV doc pm an cdv ct) ⟨us,[]⟩=pure (ps.zip us)
abbrev BodyOk (P:Program)(w:World)(K:PySem.W.Frag)(mg:Str→Option Value)(base:Heap)(qual:Str)(st:Stmt)(N:List Str)(k:Nat)(sp:Sp):Prop:=
 ∀ (f:Addr) (cdv:Value) (A:Around) (outer:List Env) (s:Shared) (H:Hp) (vs:List V) (Q:VK) (E:XK),Room k (A.deeper (envOfC qual (defScope st) s.heap.objs.size f cdv))→sp vs H Q E→
   ∃ t,PSs (cxOf CX0 P w K mg base N qual (defScope st) f cdv A outer s H E).nox (defBody st) t∧t {nx:=fun _ H'=>Q .non H',rt:=Q} (start N vs) H
theorem za5 (D:DefAt K mg x st)(S:FnScope N ps (defScope st))(B:BindOk x x st ps)(len:∀ vs H Q E,sp vs H Q E→vs.length=ps.length)(body:BodyOk P w K mg base x st N k sp):Own P w K mg base x (k+1) ps sp:=by
 obtain ⟨f,fd,F,hm⟩:=D.ex;exact ⟨f,fd,F.ok S len (body f),hm,F.kp,F.binds B⟩
theorem zek (D:MethAt K C m qual st)(S:FnScope N ps (defScope st))(B:BindOk m qual st ps)(len:∀ vs H Q E,sp vs H Q E→vs.length=ps.length)(body:BodyOk P w K mg base qual st N k sp):OwnM P w K mg base C m (k+1) ps sp:=by
 obtain ⟨f,fd,F,hm⟩:=D.ex;exact ⟨f,fd,F.ok S len (body f),hm,F.binds B⟩
theorem zh5 (D:ClassAt K mg x C qual st)(S:FnScope N ps (defScope st))(B:BindOk "__init__" qual st ps)(len:∀ vs H Q E,sp vs H Q E→vs.length=ps.length)(body:BodyOk P w K mg base qual st N k sp):OwnC P w K mg base x C (k+1) ps sp:=by
 obtain ⟨f,fd,F,M,hm⟩:=D.ex;exact ⟨f,fd,F.ok S len (body f),M,hm,F.binds B⟩
end
end
open PySem PySem.Spec PyProof.Rows L2
local macro_rules | `(tactic| walk_at "rd")=>`(tactic| simp only [tSeq,tIfS,tOr,tAnd,tNot,tTest,tB,tOp,tVar,tC,tRet,tRetN,tNext,tDrop,tCB,tCall,tMake,tCons,tNil,tAsg,tUn,rU,tIf,tAndV,tOrV,tNotV,tM0,tM1,tTab,tLst,tTup,tFld,sFld,gName,tAug,ipI,gTup,gCons,gNil,tDNewK,tDGet1,tDGet2,tDGet,tYes,sDPut,tSl,tPart,tNoPart,rSlL,tBM,tBM0,rAppend,rIxL,rIxT,rI0,rI,rEq,rNe,L2.start,List.map,List.length,List.replicate,List.append,List.cons_append,List.nil_append,List.append_nil,List.set,List.getElem?_cons_zero,List.getElem?_cons_succ,Option.some.injEq,exists_eq_left',exists_eq_left,exists_eq_right,V.int.injEq,V.bl.injEq,V.str.injEq,V.ref.injEq,List.cons.injEq,and_true,true_and,exists_and_left,and_assoc,cxK,lenS,scalSS,scalII,decide_eq_true_eq,if_true,Bool.not_eq_true',decide_eq_false_iff_not])
section
open PySem PySem.Spec PyProof.Rows L2
open RgCase (Bytes ascii nameOk claimName cutAt)
structure Ads where
 nc:Addr
 forms:Addr
 fq:List (Str×Tok×Addr)
 cLine:Addr
inductive Part where
 | claim | who | cond | weight | points
 deriving DecidableEq
def Part.str:Part→Str
 | .claim=>"claim" | .who=>"who" | .cond=>"if" | .weight=>"weight" | .points=>"points"
def formsOf:List (Bytes×List Part):=[(ascii "claim",[.claim]),(ascii "weight",[.who,.weight]),(ascii "says",[.who,.claim]),(ascii "denies",[.who,.claim]),(ascii "seen",[.claim]),(ascii "unseen",[.claim]),
 (ascii "for",[.claim,.cond]),(ascii "against",[.claim,.cond]),(ascii "penalty",[.who,.points,.cond]),(ascii "redress",[.who,.cond])]
structure TxtF (ad:Ads)(w:World)(K:PySem.W.Frag)(mg:Str→Option Value):Prop where
 g_NO_CLAIM_NAMES:mg "NO_CLAIM_NAMES"=some (.ref ad.nc)
 t_NO_CLAIM_NAMES:TupG K ad.nc ["not","open","if"]
 g_FORMS:mg "FORMS"=some (.ref ad.forms)
 t_FORMS:Tab K w ad.forms ad.fq
 p_FORMS:Paired (fun (q:Str×Tok×Addr) (p:Bytes×List Part)=>q.1=toS p.1∧TupG K q.2.2 (p.2.map Part.str)) ad.fq formsOf
 g_PROVED:GInt mg "PROVED" 1
 g_REFUTED:GInt mg "REFUTED" 2
 g_OPEN:GInt mg "OPEN" 3
 g_LONGEST_NAME:GInt mg "LONGEST_NAME" 12
 g_MOST_CONDITIONS:GInt mg "MOST_CONDITIONS" 8
 g_MOST_WEIGHT:GInt mg "MOST_WEIGHT" 9
 g_MOST_POINTS:GInt mg "MOST_POINTS" 99
 g_NAME_SIGNS:GStr mg "NAME_SIGNS" "abcdefghijklmnopqrstuvwxyz0123456789"
 g_TEXT_SIGNS:GStr mg "TEXT_SIGNS" "abcdefghijklmnopqrstuvwxyz0123456789 \n"
 g_STRANGE_SIGN:GStr mg "STRANGE_SIGN" "?"
 b_len:mg "len"=none
 b_ord:mg "ord"=none
 b_str:mg "str"=none
 b_int:mg "int"=none
 b_enumerate:mg "enumerate"=none
section
variable {P:Program}{w:World}{K:PySem.W.Frag}{mg:Str→Option Value}{base:Heap}{ad:Ads}
def wantedVal (w:Bytes):Int:=if w=ascii "not" then 2 else if w=ascii "open" then 3 else 1
def zgm:Sp:=fun vs H Q _=>∃ w:Bytes,vs=[.str (toS w)]∧Q (.int (wantedVal w)) H
abbrev zeb:Stmt:=top 23
theorem zqv:FnScope ["word"] ["word"] (defScope zeb):=⟨rfl,rfl,rfl,by decide +kernel,rfl,by decide +kernel,by decide +kernel⟩
theorem zsl:BindOk "wanted_by" "wanted_by" zeb ["word"]:=fun _ _ _ _ _ _=>ls1 fun _=>rfl
theorem zrf (D:DefAt K mg "wanted_by" zeb)(T:TxtF ad w K mg):Own P w K mg base "wanted_by" 1 ["word"] zgm:=by
 refine za5 D zqv zsl (fun vs H Q E h=>?_) (fun f cdv A outer s H vs Q E hr h=>?_)
 ·obtain ⟨w,rfl,_⟩:=h;rfl
 ·obtain ⟨w,rfl,k⟩:=h;refine ⟨_,(zad (zav (zai zcd (pv 0) zaw (nomark _)) (zae (zak (zal T.g_REFUTED))) zam)
   (zad (zav (zai zcd (pv 0) zaw (nomark _)) (zae (zak (zal T.g_OPEN))) zam)
   (zae (zak (zal T.g_PROVED))))),?_⟩
  unfold wantedVal at k;walk_at "rd"
  rw [s_not,s_open];simp only [zxo];by_cases h1:w=ascii "not"
  ·rw [if_pos h1] at k ⊢;exact k
  ·rw [if_neg h1] at k ⊢;by_cases h2:w=ascii "open"
   ·rw [if_pos h2] at k ⊢;exact k
   ·rw [if_neg h2] at k ⊢;exact k
theorem zuq (c:UInt8):c.toNat∈(Str.ofString "abcdefghijklmnopqrstuvwxyz0123456789").cps.toList↔nameSign c=true:=by
 have h:∀ n:Fin 256,decide (n.1∈(Str.ofString "abcdefghijklmnopqrstuvwxyz0123456789").cps.toList)=nameSign (UInt8.ofNat n.1):=by decide +kernel
 have:=h ⟨c.toNat,c.toNat_lt⟩;rw [UInt8.ofNat_toNat] at this;rw [←this,decide_eq_true_iff]
theorem ztr (w:Bytes):nameOk w=(decide (1≤w.length)&&(decide (w.length≤12)&&w.all nameSign)):=rfl
theorem toS_at {w:Bytes}{i c:Nat}(h:(toS w).cps[i]? = some c):∃ x,w[i]? = some x∧c=x.toNat:=by
 unfold toS at h;rw [List.getElem?_toArray,List.getElem?_map] at h;cases e:w[i]? with
 | none=>
  rw [e] at h;cases h
 | some x=>
  rw [e] at h;exact ⟨x,rfl,(Option.some.inj h).symm⟩
theorem toS_size (w:Bytes):(toS w).cps.size=w.length:=by
 unfold toS;simp
def zff:Sp:=fun vs H Q _=>∃ w:Bytes,vs=[.str (toS w)]∧w.length≤2000000∧Q (.bl (nameOk w)) H
abbrev zg5:Stmt:=top 20
theorem znl:FnScope ["word","sign"] ["word"] (defScope zg5):=⟨rfl,rfl,rfl,by decide +kernel,rfl,by decide +kernel,by decide +kernel⟩
theorem zw9:BindOk "is_name" "is_name" zg5 ["word"]:=fun _ _ _ _ _ _=>ls1 fun _=>rfl
theorem zwb (D:DefAt K mg "is_name" zg5)(T:TxtF ad w K mg):Own P w K mg base "is_name" 1 ["word"] zff:=by
 refine za5 D znl zw9 (fun vs H Q E h=>?_) (fun f cdv A outer s H vs Q E hr h=>?_)
 ·obtain ⟨w,rfl,_⟩:=h;rfl
 ·obtain ⟨w,rfl,hl,k⟩:=h;have hz:w.length≤sizeLine:=Nat.le_trans hl (by decide)
  refine ⟨_,(zad (zav (zv7 (zai op_lt (zao zap (by rfl) T.b_len PySem.boot_len (zab (pv 0) zaf)) zan (nomark _)) (zq6 (zai zoz (zao zap (by rfl) T.b_len PySem.boot_len (zab (pv 0) zaf)) (zal T.g_LONGEST_NAME) (nomark _)))).pt (zae (zak zmo)) zam)
   (zad (zim PassesOwn.never rfl (pi_str (pv 0)) (zbj (i:=1) znl.nd rfl (Or.inl rfl))
    (zae (zav (zai zoy (pv 1) (ztl T.g_NAME_SIGNS) rfl) (zae (zak zmo)) zam)))
   (zae (zak zmo)))),?_⟩
  rw [ztr] at k;walk_at "rd"
  rw [ze1];refine ⟨hz,?_⟩;by_cases h1:(w.length:Int)<1
  ·rw [if_pos h1];have:¬ 1≤w.length:=by omega
   simpa [this] using k
  ·rw [if_neg h1];refine ⟨hz,?_⟩;have e1:1≤w.length:=by omega
   by_cases h2:(12:Int)<w.length
   ·rw [if_pos h2];have:¬ w.length≤12:=by omega
    simpa [this] using k
   ·rw [if_neg h2];have e2:w.length≤12:=by omega
    simp only [e1,e2,decide_true,Bool.true_and] at k;refine ⟨_,rfl,_,rfl,for_str (x:=toS w) (fun i σ H'=>H'=H∧(∃ v,σ=[some (.str (toS w)),v])∧(w.take i).all nameSign=true) ⟨rfl,⟨_,rfl⟩,rfl⟩ ?_ ?_⟩
    ·rintro i c σ H' hc ⟨rfl,⟨v,rfl⟩,ha⟩;obtain ⟨x,hx,rfl⟩:=toS_at hc;walk_at "rd"
     refine ⟨x.toNat,rfl,?_⟩;have hi:i<w.length:=(List.getElem?_eq_some_iff.mp hx).1;have ht:w.take (i+1)=w.take i++[x]:=by rw [List.take_add_one,hx];rfl
     by_cases q:nameSign x=true
     ·rw [if_neg fun z=>z ((zuq x).mpr q)];refine ⟨⟨_,rfl⟩,?_⟩;rw [ht,List.all_append,ha];simpa using q
     ·rw [if_pos fun z=>q ((zuq x).mp z)];have:w.all nameSign=false:=by
       rw [List.all_eq_false];exact ⟨x,List.mem_of_getElem? hx,q⟩
      rw [this] at k;exact k
    ·rintro σ H' ⟨rfl,⟨v,rfl⟩,ha⟩;rw [toS_size,List.take_length] at ha;rw [ha] at k;walk_at "rd"
     exact k
theorem zm3 (w:Bytes):claimName w=(nameOk w&&!inV (.str (toS w)) ([Str.ofString "not",Str.ofString "open",Str.ofString "if"].map V.str)):=by
 unfold claimName;congr 2
 have e1:Str.ofString "not"=toS (ascii "not"):=by decide +kernel
 have e2:Str.ofString "open"=toS (ascii "open"):=by decide +kernel
 have e3:Str.ofString "if"=toS (ascii "if"):=by decide +kernel
 rw [e1,e2,e3];have key:∀ a:Bytes,eqV (.str (toS a)) (.str (toS w))=(w==a):=fun a=>by
  show (toS a==toS w)=(w==a);by_cases e:w=a
  ·rw [e];simp
  ·have:toS a≠toS w:=fun z=>e (zle z).symm;rw [beq_eq_false_iff_ne.mpr this,beq_eq_false_iff_ne.mpr e]
 simp only [inV,List.map_cons,List.map_nil,List.any_cons,List.any_nil,key,List.contains_cons,List.contains_nil]
def zcn:Sp:=fun vs H Q _=>∃ w:Bytes,vs=[.str (toS w)]∧w.length≤2000000∧Q (.bl (claimName w)) H
abbrev zb6:Stmt:=top 21
theorem zki:FnScope ["word"] ["word"] (defScope zb6):=⟨rfl,rfl,rfl,by decide +kernel,rfl,by decide +kernel,by decide +kernel⟩
theorem zkv:BindOk "is_claim_name" "is_claim_name" zb6 ["word"]:=fun _ _ _ _ _ _=>ls1 fun _=>rfl
theorem zkr (D:DefAt K mg "is_claim_name" zb6)(T:TxtF ad w K mg)(O_is_name:Own P w K mg base "is_name" 1 ["word"] zff):Own P w K mg base "is_claim_name" 2 ["word"] zcn:=by
 refine za5 D zki zkv (fun vs H Q E h=>?_) (fun f cdv A outer s H vs Q E hr h=>?_)
 ·obtain ⟨w,rfl,_⟩:=h;rfl
 ·obtain ⟨w,rfl,hl,k⟩:=h;refine ⟨_,(zae (zak (pe_and (zar O_is_name (hr.mono (by decide)) (zab (pv 0) zaf)) (pe_one (zg7 zrd (pv 0) (pe_gref T.g_NO_CLAIM_NAMES) rfl))))),?_⟩
  rw [zm3] at k;walk_at "rd"
  refine ⟨w,rfl,hl,?_⟩;walk_at "rd"
  cases e:nameOk w
  ·rw [e] at k;exact k
  ·rw [e] at k;rw [if_pos rfl];exact ⟨_,_,rfl,.inr (T.t_NO_CLAIM_NAMES.sq _),rfl,rfl,k⟩
theorem zxi:∀ c:Nat,c<128→Unicode.isDigit c=(decide (48≤c)&&decide (c≤57)):=by decide +kernel
theorem digit_nat (c:UInt8):digit c=(decide (48≤c.toNat)&&decide (c.toNat≤57)):=by
 unfold digit;rw [decide_eq_decide.mpr (UInt8.le_iff_toNat_le (a:=48) (b:=c)),decide_eq_decide.mpr (UInt8.le_iff_toNat_le (a:=c) (b:=57))];rfl
theorem zsu:∀ {w:Bytes},(∀ c∈w,c.toNat<128)→(w.map UInt8.toNat).all Unicode.isDigit=w.all digit
 | [],_=>rfl
 | c::r,h=>by
  rw [List.map_cons,List.all_cons,List.all_cons,zsu fun d hd=>h d (List.mem_cons_of_mem _ hd),zxi _ (h c List.mem_cons_self),digit_nat]
theorem zt3 {w:Bytes}(h:∀ c∈w,c.toNat<128):Txt.isdigit (toS w)=(decide (w≠[])&&w.all digit):=by
 unfold Txt.isdigit;rw [ze1,←zsu h];congr 1
 ·cases w <;> simp
 ·unfold toS;rw [List.all_toArray]
theorem zs3:∀ w:Bytes,Txt.startswith (toS w) (Str.ofString "0")=decide (w.head? = some 48):=by
 intro w;have e0:Str.ofString "0"=toS [48]:=by decide +kernel
 rw [e0];unfold Txt.startswith;cases w with
 | nil=>rfl
 | cons c r=>
  have h2:decide (0+(toS [48]).length≤(toS (c::r)).length)=true:=by
   rw [ze1,ze1];simp
  have h3:(toS [48]).length=1:=rfl;rw [h2,Bool.true_and,PySem.StrLaws.subAt_eq,h3];by_cases e:c=48
  ·subst e;simp [toS]
  ·have:c.toNat≠48:=fun z=>e (UInt8.toNat_inj.mp z);simp [toS,e,this]
theorem int_one:∀ k:Fin 10,PySem.intText? (toS [UInt8.ofNat (48+k.1)])=some ((RgCase.natIn [UInt8.ofNat (48+k.1)]:Nat):Int):=by decide +kernel
theorem int_two:∀ k j:Fin 10,PySem.intText? (toS [UInt8.ofNat (48+k.1),UInt8.ofNat (48+j.1)])=some ((RgCase.natIn [UInt8.ofNat (48+k.1),UInt8.ofNat (48+j.1)]:Nat):Int):=by decide +kernel
theorem int_toS {w:Bytes}(h0:w≠[])(hd:w.all digit=true)(hl:w.length≤2):PySem.intText? (toS w)=some ((RgCase.natIn w:Nat):Int):=by
 match w,h0,hd,hl with
 | [c],_,hd,_=>
  simp only [List.all_cons,List.all_nil,Bool.and_true] at hd;obtain ⟨k,rfl⟩:=zhq hd;exact int_one k
 | [c,d],_,hd,_=>
  simp only [List.all_cons,List.all_nil,Bool.and_true,Bool.and_eq_true] at hd;obtain ⟨k,rfl⟩:=zhq hd.1;obtain ⟨j,rfl⟩:=zhq hd.2;exact int_two k j
 | _::_::_::_,_,_,hl=>simp at hl
def ze2:Sp:=fun vs H Q _=>∃ (w:Bytes) (most:Nat),vs=[.str (toS w),.int most]∧w.length≤2000000∧(∀ c∈w,c.toNat<128)∧(most=9∨most=99)∧Q (.int (numP most w)) H
abbrev zcy:Stmt:=top 22
theorem zhx:FnScope ["word","most","number"] ["word","most"] (defScope zcy):=⟨rfl,rfl,rfl,by decide +kernel,rfl,by decide +kernel,by decide +kernel⟩
theorem zm6:BindOk "number_from" "number_from" zcy ["word","most"]:=fun _ _ _ _ _ _=>ls2 fun _ _=>rfl
theorem zmq (D:DefAt K mg "number_from" zcy)(T:TxtF ad w K mg):Own P w K mg base "number_from" 1 ["word","most"] ze2:=by
 refine za5 D zhx zm6 (fun vs H Q E h=>?_) (fun f cdv A outer s H vs Q E hr h=>?_)
 ·obtain ⟨w,most,rfl,_⟩:=h;rfl
 ·obtain ⟨w,most,rfl,hl,ha,hm,k⟩:=h;have hz:w.length≤sizeLine:=Nat.le_trans hl (by decide)
  refine ⟨_,(zad (zav (zv7 (zai zoz (zao zap (by rfl) T.b_len PySem.boot_len (zab (pv 0) zaf)) (zao zap (by rfl) T.b_len PySem.boot_len (zab (zlr zse (by rfl) T.b_str PyProof.Rows.boot_str (zab (pv 1) zaf)) zaf)) (nomark _)) (zv7 (zq7 (zev (pe_m0 PySem.F.slot_str_isdigit PySem.F.type_str_isdigit zwe (pv 0)))) (zq6 (zev (pe_m1 PySem.F.slot_str_startswith PySem.F.type_str_startswith zpc (pv 0) zaw))))).pt (zae (zak zan)) zam)
   (zad (zat (i:=2) zhx.nd rfl (Or.inl rfl) (zlr zsf (by rfl) T.b_int PyProof.Rows.boot_int (zab (pv 0) zaf)))
   (zae (zak (zcj (zai op_le (pv 2) (pv 1) (nomark _)) (pv 2) zan))))),?_⟩
  have hs:(toString (most:Int):Str).length=(if most<10 then 1 else 2)∧(most:Int).natAbs.log2<1920∧(toString (most:Int):Str).length≤sizeLine:=by
   rcases hm with rfl | rfl <;> exact ⟨by decide +kernel,by decide +kernel,by decide +kernel⟩
  walk_at "rd"
  rw [ze1];refine ⟨hz,hs.2.1,hs.2.2,?_⟩;rw [hs.1];unfold numP at k;by_cases h1:((if most<10 then 1 else 2:Nat):Int)<(w.length:Int)
  ·rw [if_pos h1];rw [if_neg (by intro z;have:=z.1;omega)] at k
   exact k
  ·rw [if_neg h1];refine ⟨⟨_,rfl⟩,?_⟩;rw [zt3 ha];have e1:w.length≤(if most<10 then 1 else 2):=by omega
   by_cases h2:w≠[]∧w.all digit=true
   ·have:(decide (w≠[])&&w.all digit)=true:=by simp [h2.1,h2.2]
    rw [this,if_neg (by decide)]
    refine ⟨⟨_,rfl⟩,?_⟩;rw [zs3];by_cases h3:w.head? = some 48
    ·rw [if_pos (decide_eq_true h3)];rw [if_neg (by intro z;exact z.2.2 h3)] at k
     exact k
    ·rw [if_neg (by simpa using h3)]
     rw [if_pos ⟨e1,h2,h3⟩] at k;have e2:w.length≤2:=by split at e1 <;> omega
     refine ⟨_,int_toS h2.1 h2.2 e2,by omega,?_⟩
     by_cases h4:RgCase.natIn w≤most
     ·rw [if_pos (by omega)]
      rw [if_pos h4] at k;exact k
     ·rw [if_neg (by omega)]
      rw [if_neg h4] at k;exact k
   ·have:(decide (w≠[])&&w.all digit)=false:=by
     by_cases q:w=[]
     ·simp [q]
     ·have q2:¬ w.all digit=true:=fun z=>h2 ⟨q,z⟩;simp [q,q2]
    rw [this,if_pos rfl];rw [if_neg (by intro z;exact h2 z.2.1)] at k
    exact k
def condV (c:RgCase.Cond):List V:=[.int c.value,.str (toS c.claim)]
structure CondsAt (H:Hp)(l:Addr)(ps:List Addr)(cs:List RgCase.Cond):Prop where
 lst:H l=some (.lst (ps.map V.ref))
 tup:Paired (fun p c=>H p=some (.tup (condV c))) ps cs
def zcx:Sp:=fun vs H Q _=>∃ (a:Addr) (ws:List Bytes),vs=[.ref a]∧H a=some (.lst (ws.map fun w=>V.str (toS w)))∧ws.length≤2000000∧(∀ w∈ws,w.length≤2000000)∧
 ∀ (H':Hp) (l:Addr) (ps:List Addr),CondsAt H' l ps (condsL ws)→H l=none→(∀ p∈ps,H p=none)→Same H H'→Q (.ref l) H'
end
end
section
open PySem PySem.Spec PyProof.Rows L2
open RgCase (Bytes ascii nameOk claimName cutAt)
section
variable {P:Program}{w:World}{K:PySem.W.Frag}{mg:Str→Option Value}{base:Heap}{ad:Ads}
theorem zw0 {a:Bytes}{r:List Bytes}(h1:a≠ascii "not")(h2:a≠ascii "open"):condsP (a::r)=if claimName a=true then (condsP r).map (⟨a,1⟩::·) else none:=by
 cases r with
 | nil=>rfl
 | cons b r=>rw [condsP,if_neg h1,if_neg h2]
theorem zwz {a b:Bytes}{r:List Bytes}(h:a=ascii "not"∨a=ascii "open"):condsP (a::b::r)=if claimName b=true then (condsP r).map (⟨b,(wantedVal a).toNat⟩::·) else none:=by
 rcases h with rfl | rfl
 ·rw [condsP,if_pos rfl];rfl
 ·rw [condsP,if_neg (Ne.symm zf5),if_pos rfl];rfl
theorem zw1 {a:Bytes}(h:a=ascii "not"∨a=ascii "open"):condsP [a]=none:=by
 rw [condsP,if_neg];rw [not_claim (by rcases h with h | h;exact .inl h;exact .inr (.inl h))]
 decide
theorem zpp {α:Type}{l:List α}{i:Nat}(h:i<l.length):l.drop i=l[i]::l.drop (i+1):=List.drop_eq_getElem_cons h
theorem zne {a:Bytes}:wantedVal a=1↔a≠ascii "not"∧a≠ascii "open":=by
 unfold wantedVal;by_cases h1:a=ascii "not"
 ·simp [h1]
 ·by_cases h2:a=ascii "open"
  ·have:ascii "open"≠ascii "not":=Ne.symm zf5;simp [h2,this]
  ·simp [h1,h2]
theorem lenL {K:PySem.W.Frag}{H:Hp}{p:Addr}{xs:List V}(h:H p=some (.lst xs)):LenV K (.ref p) H xs.length:=.inl ⟨xs,SqL.of h,rfl⟩
theorem zu7 {g:Int→Int→V}{i j:Nat}{K:PySem.W.Frag}(σ:L2.St)(H:Hp)(Q Q':Bool→Hp→Prop)(m:∀ b H1,Q b H1→Q' b H1)(h:tTest (tOp (rI0 g) (tVar i) (tCB (fun xs H Q=>∃ x n,xs=[x]∧LenV K x H n∧Q (.int n) H) (tCons (tVar j) tNil))) σ H Q):
  tTest (tOp (rI0 g) (tVar i) (tCB (fun xs H Q=>∃ x n,xs=[x]∧LenV K x H n∧Q (.int n) H) (tCons (tVar j) tNil))) σ H Q':=by
 obtain ⟨v,e,w,e2,x,n,e3,hl,i,j,e4,e5,k,e6,q⟩:=h;exact ⟨v,e,w,e2,x,n,e3,hl,i,j,e4,e5,k,e6,m _ _ q⟩
def rcP (H:Hp)(a l:Addr)(ws:List Bytes)(σ:L2.St)(H':Hp):Prop:=∃ (i:Nat) (v3:Option V) (ps:List Addr) (cs:List RgCase.Cond),σ=[some (.ref a),some (.ref l),some (.int i),v3]∧i≤ws.length∧
 condsP ws=(condsP (ws.drop i)).map (cs++·)∧CondsAt H' l ps cs∧(∀ p∈ps,H p=none)∧Same H H'∧cs.length≤i
theorem Paired.snoc {α β:Type}{G:α→β→Prop}:∀ {l₁:List α} {l₂:List β} {x:α} {y:β},Paired G l₁ l₂→G x y→Paired G (l₁++[x]) (l₂++[y])
 | _,_,_,_,.nil,h=>.cons h .nil
 | _,_,_,_,.cons g r,h=>.cons g (Paired.snoc r h)
theorem Paired.zfc {α β:Type}{F G:α→β→Prop}:∀ {l₁:List α} {l₂:List β},Paired F l₁ l₂→(∀ a∈l₁,∀ b,F a b→G a b)→Paired G l₁ l₂
 | _,_,.nil,_=>.nil
 | _,_,.cons r t,f=>.cons (f _ List.mem_cons_self _ r) (Paired.zfc t fun a ha b h=>f a (List.mem_cons_of_mem _ ha) b h)
theorem CondsAt.snoc {H:Hp}{l p:Addr}{ps:List Addr}{cs:List RgCase.Cond}{c:RgCase.Cond}(h:CondsAt H l ps cs)(hp:H p=none):CondsAt (upd (upd H p (.tup (condV c))) l (.lst (ps.map V.ref++[.ref p]))) l (ps++[p]) (cs++[c]):=by
 have npl:p≠l:=fun e=>by rw [e,h.lst] at hp;cases hp
 refine ⟨by rw [zaa,List.map_append];rfl,Paired.snoc (Paired.zfc h.tup fun q _ _ hq=>?_) (by rw [zac npl,zaa])⟩
 have nql:q≠l:=zdd hq h.lst (by intro z;cases z)
 rw [zac nql,zac (zag hq hp)];exact hq
theorem Same.new {H:Hp}{p:Addr}{o:HO}(h:H p=none):Same H (upd H p o):=fun b u e=>by rw [zac (zag e h)];exact e
theorem Same.upd {H H':Hp}{p:Addr}{o:HO}(s:Same H H')(h:H p=none):Same H (upd H' p o):=fun b u e=>by rw [zac (zag e h)];exact s b u e
abbrev zbn:Stmt:=top 24
theorem za7:FnScope ["words","conditions","place","wanted"] ["words"] (defScope zbn):=⟨rfl,rfl,rfl,by decide +kernel,rfl,by decide +kernel,by decide +kernel⟩
theorem zi6:BindOk "read_conditions" "read_conditions" zbn ["words"]:=fun _ _ _ _ _ _=>ls1 fun _=>rfl
theorem zis (D:DefAt K mg "read_conditions" zbn)(T:TxtF ad w K mg)(O_wanted_by:Own P w K mg base "wanted_by" 1 ["word"] zgm)(O_is_claim_name:Own P w K mg base "is_claim_name" 2 ["word"] zcn):
  Own P w K mg base "read_conditions" 3 ["words"] zcx:=by
 refine za5 D za7 zi6 (fun vs H Q E h=>?_) (fun f cdv A outer s H vs Q E hr h=>?_)
 ·obtain ⟨a,ws,rfl,_⟩:=h;rfl
 ·obtain ⟨a,ws,rfl,hA,hn,hw,k⟩:=h;refine ⟨_,(zad (zat (i:=1) za7.nd rfl (Or.inl rfl) (zbd zaf))
   (zad (zat (i:=2) za7.nd rfl (Or.inl rfl) zan)
   (zad (zuw PassesOwn.never (zai op_lt (pv 2) (zao zap (by rfl) T.b_len PySem.boot_len (zab (pv 0) zaf)) (nomark _)) (zad (zat (i:=3) za7.nd rfl (Or.inl rfl) (zar O_wanted_by (hr.mono (by decide)) (zab (zbt zax (pv 0) (pv 2) (fun _ _=>rfl)) zaf)))
   (zad (zav (zai zmp (pv 3) (zal T.g_PROVED) (nomark _)) (zae (ps_aug (i:=2) za7.nd rfl (Or.inl rfl) zan ip_add)) zam)
   (zad (zav (zv7 (zai zcd (pv 2) (zao zap (by rfl) T.b_len PySem.boot_len (zab (pv 0) zaf)) (nomark _)) (zq6 (zq7 (zev (zar O_is_claim_name (hr.mono (by decide)) (zab (zbt zax (pv 0) (pv 2) (fun _ _=>rfl)) zaf)))))).pt (zae (zak (zbd zaf))) zam)
   (zad (zcr (zox PySem.F.plainAttrs_list PySem.F.slot_list_append PySem.F.type_list_append zdu (pv 1) (zab (zc7 (zab (pv 3) (zab (zbt zax (pv 0) (pv 2) (fun _ _=>rfl)) zaf))) zaf)))
   (zae (ps_aug (i:=2) za7.nd rfl (Or.inl rfl) zan ip_add)))))))
   (zae (zak (zcj (zai op_le (zao zap (by rfl) T.b_len PySem.boot_len (zab (pv 1) zaf)) (zal T.g_MOST_CONDITIONS) (nomark _)) (pv 1) (zbd zaf))))))),?_⟩
  have bad:∀ H',Same H H'→condsP ws=none→0≤sizeLine∧∀ p,H' p=none→Q (V.ref p) (upd H' p (.lst [])):=fun H' hS e=>by
   refine ⟨Nat.zero_le _,fun p hp=>k _ p [] ?_ (hS.free hp) (by simp) (hS.trans (Same.new hp))⟩
   have:condsL ws=[]:=by unfold condsL;rw [e]
   rw [this];exact ⟨zaa,.nil⟩
  refine ⟨Nat.zero_le _,fun l hl=>?_⟩;have nal:a≠l:=zag hA hl;refine zuk (rcP H a l ws) (fun σ _=>match σ with | [_,_,some (.int i),_]=>ws.length - i.toNat | _=>0)
   ⟨0,none,[],[],rfl,Nat.zero_le _,by simp,⟨zaa,.nil⟩,by simp,fun b o e=>by rw [zac (zag e hl)];exact e,Nat.le_refl _⟩ ?_ (fun σ H Q Q' m h=>zu7 σ H Q Q' m h)
  rintro σ H' ⟨i,v3,ps,cs,rfl,hi,hc,hC,hp,hS,hcs⟩;have hA':=hS _ _ hA;have step:∀ (j:Nat) (v:Nat) (hj:j<ws.length) (p:Addr),i≤j→H' p=none→condsP ws=((condsP (ws.drop (j+1))).map (⟨ws[j],v⟩::·)).map (cs++·)→
    rcP H a l ws [some (.ref a),some (.ref l),some (.int ((j:Int)+1)),some (.int v)] (upd (upd H' p (.tup [.int v,.str (toS ws[j])])) l (.lst (ps.map V.ref++[.ref p]))):=fun j v hj p hij hp' e=>by
   refine ⟨j+1,some (.int v),ps++[p],cs++[(⟨ws[j],v⟩:RgCase.Cond)],rfl,hj,?_,hC.snoc (c:=(⟨ws[j],v⟩:RgCase.Cond)) hp',?_,?_,by rw [List.length_append];simp;omega⟩
   ·rw [e,Option.map_map];congr 1
    funext x
    simp
   ·intro q hq;rcases List.mem_append.mp hq with hq | hq
    ·exact hp q hq
    ·rcases List.mem_singleton.mp hq with rfl;exact hS.free hp'
   ·exact HC.Same.upd (hS.trans (Same.new hp')) hl
  have hlen:ps.length=cs.length:=Paired.length hC.tup;walk_at "rd"
  refine ⟨_,lenL hA',?_⟩;rw [List.length_map];by_cases hlt:i<ws.length
  ·rw [if_pos (by omega)]
   have ei:(ws.map fun w=>V.str (toS w))[i]? = some (.str (toS ws[i])):=by simp [hlt]
   refine ⟨_,SqL.of hA',_,zaj ei,ws[i],rfl,?_⟩;walk_at "rd"
   rw [zpp hlt] at hc;by_cases hw1:wantedVal ws[i]=1
   ·rw [if_neg (by simpa using hw1)]
    obtain ⟨n1,n2⟩:=zne.mp hw1;rw [zw0 n1 n2] at hc;refine ⟨_,lenL hA',?_⟩;rw [List.length_map,if_neg (by omega)]
    refine ⟨_,SqL.of hA',_,zaj ei,ws[i],rfl,hw _ (List.getElem_mem _),?_⟩;walk_at "rd"
    by_cases hq:claimName ws[i]=true
    ·rw [if_neg (by rw [hq];decide)]
     rw [if_pos hq] at hc;refine ⟨.inl ⟨rfl,_,SqL.of hC.lst⟩,_,SqL.of hA',_,zaj ei,by decide,fun p hp'=>?_⟩
     refine ⟨_,by rw [zac (fun e=>by rw [←e,hC.lst] at hp';cases hp')];exact hC.lst,?_,?_,by omega⟩
     ·rw [List.length_map,hlen];exact Nat.lt_of_le_of_lt hcs (Nat.lt_of_lt_of_le hlt (Nat.le_trans hn (by decide)))
     ·have:=step i 1 hlt p (Nat.le_refl _) hp' hc;rw [hw1];exact this
    ·rw [if_pos (by simpa using hq)]
     rw [if_neg hq] at hc;exact bad H' hS (by rw [hc];rfl)
   ·rw [if_pos (by simpa using hw1)]
    have hno:ws[i]=ascii "not"∨ws[i]=ascii "open":=by
     by_cases z:ws[i]=ascii "not"
     ·exact .inl z
     ·by_cases z2:ws[i]=ascii "open"
      ·exact .inr z2
      ·exact absurd (zne.mpr ⟨z,z2⟩) hw1
    refine ⟨_,lenL hA',?_⟩;rw [List.length_map];by_cases hl2:i+1=ws.length
    ·rw [if_pos (by omega)]
     rw [hl2,List.drop_length,zw1 hno] at hc;exact bad H' hS (by rw [hc];rfl)
    ·rw [if_neg (by omega)]
     have hlt2:i+1<ws.length:=by omega
     have ei2:(ws.map fun w=>V.str (toS w))[i+1]? = some (.str (toS ws[i+1])):=by simp [hlt2]
     have ei3:atI (ws.map fun w=>V.str (toS w)) ((i:Int)+1)=some (.str (toS ws[i+1])):=zaj ei2;rw [zpp hlt2,zwz hno] at hc;refine ⟨_,SqL.of hA',_,ei3,ws[i+1],rfl,hw _ (List.getElem_mem _),?_⟩;walk_at "rd"
     by_cases hq:claimName ws[i+1]=true
     ·rw [if_neg (by rw [hq];decide)]
      rw [if_pos hq] at hc;refine ⟨.inl ⟨rfl,_,SqL.of hC.lst⟩,_,SqL.of hA',_,ei3,by decide,fun p hp'=>?_⟩
      refine ⟨_,by rw [zac (fun e=>by rw [←e,hC.lst] at hp';cases hp')];exact hC.lst,?_,?_,by omega⟩
      ·rw [List.length_map,hlen];exact Nat.lt_of_le_of_lt hcs (Nat.lt_of_lt_of_le hlt (Nat.le_trans hn (by decide)))
      ·have hv:((wantedVal ws[i]).toNat:Int)=wantedVal ws[i]:=by
        rcases hno with z | z <;> rw [z] <;> decide +kernel
       have:=step (i+1) (wantedVal ws[i]).toNat hlt2 p (Nat.le_succ _) hp' hc;rw [hv] at this;exact this
     ·rw [if_pos (by simpa using hq)]
      rw [if_neg hq] at hc;exact bad H' hS (by rw [hc];rfl)
  ·rw [if_neg (by omega)]
   have e:i=ws.length:=by omega
   refine ⟨_,lenL hC.lst,?_⟩;rw [List.length_map,hlen];rw [e,List.drop_length] at hc;have hc':condsP ws=some cs:=by rw [hc];simp [condsP]
   by_cases h8:cs.length≤8
   ·rw [if_pos (by omega)]
    refine k H' l ps ?_ hl hp hS;have:condsL ws=cs:=by unfold condsL;rw [hc'];exact if_pos h8
    rw [this];exact hC
   ·rw [if_neg (by omega)]
    refine ⟨Nat.zero_le _,fun p hp'=>k _ p [] ?_ (hS.free hp') (by simp) (hS.trans (Same.new hp'))⟩
    have:condsL ws=[]:=by unfold condsL;rw [hc'];exact if_neg h8
    rw [this];exact ⟨zaa,.nil⟩
end
end
section
open PySem PySem.Spec PyProof.Rows L2
open RgCase (Bytes ascii nameOk claimName cutAt)
section
variable {P:Program}{w:World}{K:PySem.W.Frag}{mg:Str→Option Value}{base:Heap}{ad:Ads}
def lineF (kind claim who:Str)(amount:Int)(l:Addr):List (Str×V):=[("kind",.str kind),("claim",.str claim),("who",.str who),("amount",.int amount),("conditions",.ref l)]
theorem zwj (kind claim who:Str)(amount:Int)(l:Addr):putF "conditions" (.ref l) (putF "amount" (.int amount) (putF "who" (.str who) (putF "claim" (.str claim) (putF "kind" (.str kind) []))))=lineF kind claim who amount l:=by rfl
theorem zt2 (kind claim who:Str)(amount:Int)(l:Addr)(x:Str):putF "claim" (.str x) (lineF kind claim who amount l)=lineF kind x who amount l:=by rfl
theorem lineF_who (kind claim who:Str)(amount:Int)(l:Addr)(x:Str):putF "who" (.str x) (lineF kind claim who amount l)=lineF kind claim x amount l:=by rfl
theorem zew (kind claim who:Str)(amount:Int)(l:Addr)(x:Int):putF "amount" (.int x) (lineF kind claim who amount l)=lineF kind claim who x l:=by rfl
theorem zgi (kind claim who:Str)(amount:Int)(l l':Addr):putF "conditions" (.ref l') (lineF kind claim who amount l)=lineF kind claim who amount l':=by rfl
theorem zbi (kind claim who:Str)(amount:Int)(l:Addr):(lineF kind claim who amount l).lookup ("kind":Str)=some (.str kind):=by rfl
theorem zho (kind claim who:Str)(amount:Int)(l:Addr):(lineF kind claim who amount l).lookup ("claim":Str)=some (.str claim):=by rfl
theorem zhn (kind claim who:Str)(amount:Int)(l:Addr):(lineF kind claim who amount l).lookup ("who":Str)=some (.str who):=by rfl
theorem zk5 (kind claim who:Str)(amount:Int)(l:Addr):(lineF kind claim who amount l).lookup ("amount":Str)=some (.int amount):=by rfl
theorem zpi (kind claim who:Str)(amount:Int)(l:Addr):(lineF kind claim who amount l).lookup ("conditions":Str)=some (.ref l):=by rfl
structure ClsLine (K:PySem.W.Frag)(C:Addr):Prop where
 cl:Cls K C
 n1:NoAttr K C "kind"
 n2:NoAttr K C "claim"
 n3:NoAttr K C "who"
 n4:NoAttr K C "amount"
 n5:NoAttr K C "conditions"
def But (p:Addr)(H H':Hp):Prop:=∀ b o,H b=some o→b≠p→H' b=some o
def zgv (C:Addr):Sp:=fun vs H Q _=>∃ (p dx:Addr) (kind:Str),vs=[.ref p,.str kind]∧H p=some (.ins C dx [])∧
 ∀ (H':Hp) (l:Addr),H' p=some (.ins C dx (lineF kind Str.empty Str.empty 0 l))→H' l=some (.lst [])→H l=none→But p H H'→Q .non H'
abbrev zb9:Stmt:=inClass (top 18) 0
theorem zkl:FnScope ["self","kind"] ["self","kind"] (defScope zb9):=⟨rfl,rfl,rfl,by decide +kernel,rfl,by decide +kernel,by decide +kernel⟩
theorem zky:BindOk "__init__" "Line.__init__" zb9 ["self","kind"]:=fun _ _ _ _ _ _=>ls2 fun _ _=>rfl
theorem ok_Line (D:ClassAt K mg "Line" ad.cLine "Line.__init__" zb9)(C:ClsLine K ad.cLine):OwnC P w K mg base "Line" ad.cLine 1 ["self","kind"] (zgv ad.cLine):=by
 refine zh5 D zkl zky (fun vs H Q E h=>?_) (fun f cdv A outer s H vs Q E hr h=>?_)
 ·obtain ⟨p,dx,kind,rfl,_⟩:=h;rfl
 ·obtain ⟨p,dx,kind,rfl,hp,k⟩:=h;refine ⟨_,(zad (zbc (pv 0) (pv 1) rfl)
   (zad (zbc (pv 0) zaw rfl)
   (zad (zbc (pv 0) zaw rfl)
   (zad (zbc (pv 0) zan rfl)
   (zae (zbc (pv 0) (zbd zaf) rfl)))))),?_⟩
  walk_at "rd"
  refine ⟨_,_,_,hp,C.cl,C.n1,(by show 0<1000;decide),_,_,_,zaa,C.cl,C.n2,(by show 1<1000;decide),_,_,_,zaa,C.cl,C.n3,(by show 2<1000;decide),_,_,_,zaa,C.cl,C.n4,(by show 3<1000;decide),Nat.zero_le _,fun l hl=>?_⟩
  have npl:p≠l:=fun e=>by rw [←e,zaa] at hl;cases hl
  refine ⟨_,_,_,by rw [zac npl,zaa],C.cl,C.n5,(by show 4<1000;decide),?_⟩
  refine k _ l (by rw [zaa];exact congrArg (fun z=>some (HO.ins ad.cLine dx z)) (zwj kind Str.empty Str.empty 0 l)) (by rw [zac (Ne.symm npl),zaa]) ?_ ?_
  ·rw [zac (Ne.symm npl),zac (Ne.symm npl),zac (Ne.symm npl),zac (Ne.symm npl)] at hl;exact hl
  ·intro b o e hb;have nbl:b≠l:=fun z=>by
    rw [←z,zac hb,zac hb,zac hb,zac hb,e] at hl;cases hl
   rw [zac hb,zac nbl,zac hb,zac hb,zac hb,zac hb];exact e
structure LineAt (C:Addr)(H:Hp)(p:Addr)(kind claim who:Str)(amount:Int)(l:Addr):Prop where
 ex:∃ dx,H p=some (.ins C dx (lineF kind claim who amount l))
def Part.ok:Part→Bytes→Bool
 | .claim,w=>claimName w
 | .who,w=>nameOk w
 | .cond,w=>decide (w=ascii "if")
 | .weight,w=>decide (numP 9 w≠0)
 | .points,w=>decide (numP 99 w≠0)
def Part.claimS:Part→Bytes→Str→Str
 | .claim,w,_=>toS w
 | _,_,x=>x
def Part.whoS:Part→Bytes→Str→Str
 | .who,w,_=>toS w
 | _,_,x=>x
def Part.amountI:Part→Bytes→Int→Int
 | .weight,w,_=>(numP 9 w:Int)
 | .points,w,_=>(numP 99 w:Int)
 | _,_,x=>x
theorem neS {a b:Str}(h:¬ a=b):(a=b)=False:=eq_false h
theorem pn1:(Str.ofString "who"=Str.ofString "claim")=False:=neS (by decide +kernel)
theorem pn2:(Str.ofString "if"=Str.ofString "claim")=False:=neS (by decide +kernel)
theorem pn3:(Str.ofString "weight"=Str.ofString "claim")=False:=neS (by decide +kernel)
theorem pn4:(Str.ofString "points"=Str.ofString "claim")=False:=neS (by decide +kernel)
theorem pn5:(Str.ofString "if"=Str.ofString "who")=False:=neS (by decide +kernel)
theorem pn6:(Str.ofString "weight"=Str.ofString "who")=False:=neS (by decide +kernel)
theorem pn7:(Str.ofString "points"=Str.ofString "who")=False:=neS (by decide +kernel)
theorem pn8:(Str.ofString "weight"=Str.ofString "if")=False:=neS (by decide +kernel)
theorem pn9:(Str.ofString "points"=Str.ofString "if")=False:=neS (by decide +kernel)
theorem pn10:(Str.ofString "points"=Str.ofString "weight")=False:=neS (by decide +kernel)
def zgr (C:Addr):Sp:=fun vs H Q _=>∃ (p:Addr) (part:Part) (w:Bytes) (kind claim who:Str) (amount:Int) (l:Addr),vs=[.ref p,.str part.str,.str (toS w)]∧LineAt C H p kind claim who amount l∧w.length≤2000000∧(∀ c∈w,c.toNat<128)∧
 ∀ H':Hp,LineAt C H' p kind (part.claimS w claim) (part.whoS w who) (part.amountI w amount) l→But p H H'→(∀ b,H b=none→H' b=none)→Q (.bl (part.ok w)) H'
abbrev zee:Stmt:=top 25
theorem zqw:FnScope ["line","part","word"] ["line","part","word"] (defScope zee):=⟨rfl,rfl,rfl,by decide +kernel,rfl,by decide +kernel,by decide +kernel⟩
theorem zso:BindOk "fill_part" "fill_part" zee ["line","part","word"]:=fun _ _ _ _ _ _=>ls3 fun _ _ _=>rfl
theorem zrl (D:DefAt K mg "fill_part" zee)(T:TxtF ad w K mg)(C:ClsLine K ad.cLine)(O_is_name:Own P w K mg base "is_name" 1 ["word"] zff)(O_is_claim_name:Own P w K mg base "is_claim_name" 2 ["word"] zcn)(O_number_from:Own P w K mg base "number_from" 1 ["word","most"] ze2):Own P w K mg base "fill_part" 3 ["line","part","word"] (zgr ad.cLine):=by
 refine za5 D zqw zso (fun vs H Q E h=>?_) (fun f cdv A outer s H vs Q E hr h=>?_)
 ·obtain ⟨p,part,w,kind,claim,who,amount,l,rfl,_⟩:=h;rfl
 ·obtain ⟨p,part,w,kind,claim,who,amount,l,rfl,⟨dx,hp⟩,hl,ha,k⟩:=h;refine ⟨_,(zad (zav (zai zcd (pv 1) zaw (nomark _)) (zad (zbc (pv 0) (pv 2) rfl)
   (zae (zak (zar O_is_claim_name (hr.mono (by decide)) (zab (pv 2) zaf))))) zam)
   (zad (zav (zai zcd (pv 1) zaw (nomark _)) (zad (zbc (pv 0) (pv 2) rfl)
   (zae (zak (zar O_is_name (hr.mono (by decide)) (zab (pv 2) zaf))))) zam)
   (zad (zav (zai zcd (pv 1) zaw (nomark _)) (zae (zak (zg7 zcd (pv 2) zaw (nomark _)))) zam)
   (zad (zbc (pv 0) (zar O_number_from (hr.mono (by decide)) (zab (pv 2) (zab (zcj (zai zcd (pv 1) zaw (nomark _)) (zal T.g_MOST_WEIGHT) (zal T.g_MOST_POINTS)) zaf))) rfl)
   (zae (zak (zg7 zoz (zah (pv 0) rfl) zan (nomark _)))))))),?_⟩
  have hB:∀ o,But p H (upd H p o):=fun o b u e hb=>by rw [zac hb];exact e
  have hN:∀ o b,H b=none→upd H p o b=none:=fun o b e=>by rw [zac (fun z=>by rw [z,hp] at e;cases e)];exact e
  cases part with
  | claim=>
   simp only [Part.str];walk_at "rd"
   refine ⟨_,_,_,hp,C.cl,C.n2,(by show 5<1000;decide),w,rfl,hl,?_⟩
   rw [zt2];exact k _ ⟨dx,zaa⟩ (hB _) (hN _)
  | who=>
   simp only [Part.str];walk_at "rd"
   simp only [pn1,if_false];refine ⟨_,_,_,hp,C.cl,C.n3,(by show 5<1000;decide),w,rfl,hl,?_⟩
   rw [lineF_who];exact k _ ⟨dx,zaa⟩ (hB _) (hN _)
  | cond=>
   simp only [Part.str];walk_at "rd"
   simp only [pn2,pn5,if_false];have e3:Str.ofString "if"=toS (ascii "if"):=by decide +kernel
   simp only [e3,zxo];exact k H ⟨dx,hp⟩ (fun b o e _=>e) (fun b e=>e)
  | weight=>
   simp only [Part.str];walk_at "rd"
   simp only [pn3,pn6,pn8,if_false];refine ⟨w,9,rfl,hl,ha,.inl rfl,_,_,_,hp,C.cl,C.n4,(by show 5<1000;decide),_,_,_,zaa,C.cl,C.n4,_,(by rw [zew];exact zk5 _ _ _ _ _),_,rfl,?_⟩
   rw [zew];have e:decide (0<(numP 9 w:Int))=decide (numP 9 w≠0):=decide_eq_decide.mpr (by omega)
   rw [e];exact k _ ⟨dx,zaa⟩ (hB _) (hN _)
  | points=>
   simp only [Part.str];walk_at "rd"
   simp only [pn4,pn7,pn9,pn10,if_false];refine ⟨w,99,rfl,hl,ha,.inr rfl,_,_,_,hp,C.cl,C.n4,(by show 5<1000;decide),_,_,_,zaa,C.cl,C.n4,_,(by rw [zew];exact zk5 _ _ _ _ _),_,rfl,?_⟩
   rw [zew];have e:decide (0<(numP 99 w:Int))=decide (numP 99 w≠0):=decide_eq_decide.mpr (by omega)
   rw [e];exact k _ ⟨dx,zaa⟩ (hB _) (hN _)
end
end
section
open PySem PySem.Spec PyProof.Rows L2
open RgCase (Bytes ascii nameOk claimName cutAt Line Cond)
section
variable {P:Program}{w:World}{K:PySem.W.Frag}{mg:Str→Option Value}{base:Heap}{ad:Ads}
structure Parts where
 claim:Str
 who:Str
 amount:Int
def fillAll:List Part→List Bytes→Parts→Option Parts
 | [],_,s=>some s
 | _::_,[],_=>none
 | p::ps,w::ws,s=>if p.ok w=true then fillAll ps ws ⟨p.claimS w s.claim,p.whoS w s.who,p.amountI w s.amount⟩ else none
def noParts:Parts:=⟨Str.empty,Str.empty,0⟩
def isCond:Option Part→Bool
 | some .cond=>true
 | _=>false
def formP (w:Bytes):Option (List Part):=(formsOf.find? fun q=>decide (q.1=w)).map (·.2)
def readW:List Bytes→Option (Parts×List Cond)
 | []=>none
 | w::r=>match formP w with
  | none=>none
  | some ps=>if r.length<ps.length then none else match fillAll ps r noParts with
   | none=>none
   | some s=>if isCond ps.getLast? = true then (if condsL (r.drop ps.length)=[] then none else some (s,condsL (r.drop ps.length))) else if r.drop ps.length=[] then some (s,[]) else none
def lineParts:Line→Parts
 | .claim n=>⟨toS n,Str.empty,0⟩
 | .weight a n=>⟨Str.empty,toS a,n⟩
 | .word _ a c=>⟨toS c,toS a,0⟩
 | .seen _ c=>⟨toS c,Str.empty,0⟩
 | .rule _ c _=>⟨toS c,Str.empty,0⟩
 | .penalty b n _=>⟨Str.empty,toS b,n⟩
 | .redress b _=>⟨Str.empty,toS b,0⟩
def lineConds:Line→List Cond
 | .rule _ _ l=>l
 | .penalty _ _ l=>l
 | .redress _ l=>l
 | _=>[]
def lineKind:Line→Bytes
 | .claim _=>ascii "claim"
 | .weight _ _=>ascii "weight"
 | .word s _ _=>if s=true then ascii "says" else ascii "denies"
 | .seen s _=>if s=true then ascii "seen" else ascii "unseen"
 | .rule f _ _=>if f=true then ascii "for" else ascii "against"
 | .penalty _ _ _=>ascii "penalty"
 | .redress _ _=>ascii "redress"
theorem zt7:formP (ascii "claim")=some [.claim]:=by decide +kernel
theorem zr0:formP (ascii "weight")=some [.who,.weight]:=by decide +kernel
theorem zwu:formP (ascii "says")=some [.who,.claim]:=by decide +kernel
theorem zr2:formP (ascii "denies")=some [.who,.claim]:=by decide +kernel
theorem zwt:formP (ascii "seen")=some [.claim]:=by decide +kernel
theorem zr1:formP (ascii "unseen")=some [.claim]:=by decide +kernel
theorem formP_for:formP (ascii "for")=some [.claim,.cond]:=by decide +kernel
theorem zpm:formP (ascii "against")=some [.claim,.cond]:=by decide +kernel
theorem zpl:formP (ascii "penalty")=some [.who,.points,.cond]:=by decide +kernel
theorem zpk:formP (ascii "redress")=some [.who,.cond]:=by decide +kernel
theorem zrt (r:List Bytes):lineOf (ascii "claim"::r)=(match r with | [n]=>if claimName n=true then some (.claim n) else none | _=>none):=by
 simp only [lineOf,if_true] <;> rfl
theorem zpf (r:List Bytes):lineOf (ascii "weight"::r)=(match r with | [a,n]=>if nameOk a=true∧numP 9 n≠0 then some (.weight a (numP 9 n)) else none | _=>none):=by
 simp only [lineOf,if_neg (show ¬ ascii "weight"=ascii "claim" by decide +kernel),if_true] <;> rfl
theorem ztz (r:List Bytes):lineOf (ascii "says"::r)=(match r with | [a,n]=>if nameOk a=true∧claimName n=true then some (.word true a n) else none | _=>none):=by
 simp only [lineOf,if_neg (show ¬ ascii "says"=ascii "claim" by decide +kernel),if_neg (show ¬ ascii "says"=ascii "weight" by decide +kernel),if_true] <;> rfl
theorem zph (r:List Bytes):lineOf (ascii "denies"::r)=(match r with | [a,n]=>if nameOk a=true∧claimName n=true then some (.word false a n) else none | _=>none):=by
 simp only [lineOf,if_neg (show ¬ ascii "denies"=ascii "claim" by decide +kernel),if_neg (show ¬ ascii "denies"=ascii "weight" by decide +kernel),if_neg (show ¬ ascii "denies"=ascii "says" by decide +kernel),if_true] <;> rfl
theorem zty (r:List Bytes):lineOf (ascii "seen"::r)=(match r with | [n]=>if claimName n=true then some (.seen true n) else none | _=>none):=by
 simp only [lineOf,if_neg (show ¬ ascii "seen"=ascii "claim" by decide +kernel),if_neg (show ¬ ascii "seen"=ascii "weight" by decide +kernel),if_neg (show ¬ ascii "seen"=ascii "says" by decide +kernel),if_neg (show ¬ ascii "seen"=ascii "denies" by decide +kernel),if_true] <;> rfl
theorem zpg (r:List Bytes):lineOf (ascii "unseen"::r)=(match r with | [n]=>if claimName n=true then some (.seen false n) else none | _=>none):=by
 simp only [lineOf,if_neg (show ¬ ascii "unseen"=ascii "claim" by decide +kernel),if_neg (show ¬ ascii "unseen"=ascii "weight" by decide +kernel),if_neg (show ¬ ascii "unseen"=ascii "says" by decide +kernel),if_neg (show ¬ ascii "unseen"=ascii "denies" by decide +kernel),if_neg (show ¬ ascii "unseen"=ascii "seen" by decide +kernel),if_true] <;> rfl
theorem zwi (r:List Bytes):lineOf (ascii "for"::r)=(match r with | a::i::s=>if claimName a=true∧i=ascii "if"∧condsL s≠[] then some (.rule true a (condsL s)) else none | _=>none):=by
 simp only [lineOf,if_neg (show ¬ ascii "for"=ascii "claim" by decide +kernel),if_neg (show ¬ ascii "for"=ascii "weight" by decide +kernel),if_neg (show ¬ ascii "for"=ascii "says" by decide +kernel),if_neg (show ¬ ascii "for"=ascii "denies" by decide +kernel),if_neg (show ¬ ascii "for"=ascii "seen" by decide +kernel),if_neg (show ¬ ascii "for"=ascii "unseen" by decide +kernel),if_true] <;> rfl
theorem zmz (r:List Bytes):lineOf (ascii "against"::r)=(match r with | a::i::s=>if claimName a=true∧i=ascii "if"∧condsL s≠[] then some (.rule false a (condsL s)) else none | _=>none):=by
 simp only [lineOf,if_neg (show ¬ ascii "against"=ascii "claim" by decide +kernel),if_neg (show ¬ ascii "against"=ascii "weight" by decide +kernel),if_neg (show ¬ ascii "against"=ascii "says" by decide +kernel),if_neg (show ¬ ascii "against"=ascii "denies" by decide +kernel),if_neg (show ¬ ascii "against"=ascii "seen" by decide +kernel),if_neg (show ¬ ascii "against"=ascii "unseen" by decide +kernel),if_neg (show ¬ ascii "against"=ascii "for" by decide +kernel),if_true] <;> rfl
theorem zmy (r:List Bytes):lineOf (ascii "penalty"::r)=(match r with | a::n::i::s=>if nameOk a=true∧numP 99 n≠0∧i=ascii "if"∧condsL s≠[] then some (.penalty a (numP 99 n) (condsL s)) else none | _=>none):=by
 simp only [lineOf,if_neg (show ¬ ascii "penalty"=ascii "claim" by decide +kernel),if_neg (show ¬ ascii "penalty"=ascii "weight" by decide +kernel),if_neg (show ¬ ascii "penalty"=ascii "says" by decide +kernel),if_neg (show ¬ ascii "penalty"=ascii "denies" by decide +kernel),if_neg (show ¬ ascii "penalty"=ascii "seen" by decide +kernel),if_neg (show ¬ ascii "penalty"=ascii "unseen" by decide +kernel),if_neg (show ¬ ascii "penalty"=ascii "for" by decide +kernel),if_neg (show ¬ ascii "penalty"=ascii "against" by decide +kernel),if_true] <;> rfl
theorem zmx (r:List Bytes):lineOf (ascii "redress"::r)=(match r with | a::i::s=>if nameOk a=true∧i=ascii "if"∧condsL s≠[] then some (.redress a (condsL s)) else none | _=>none):=by
 simp only [lineOf,if_neg (show ¬ ascii "redress"=ascii "claim" by decide +kernel),if_neg (show ¬ ascii "redress"=ascii "weight" by decide +kernel),if_neg (show ¬ ascii "redress"=ascii "says" by decide +kernel),if_neg (show ¬ ascii "redress"=ascii "denies" by decide +kernel),if_neg (show ¬ ascii "redress"=ascii "seen" by decide +kernel),if_neg (show ¬ ascii "redress"=ascii "unseen" by decide +kernel),if_neg (show ¬ ascii "redress"=ascii "for" by decide +kernel),if_neg (show ¬ ascii "redress"=ascii "against" by decide +kernel),if_neg (show ¬ ascii "redress"=ascii "penalty" by decide +kernel),if_true] <;> rfl
theorem zwv {w:Bytes}(h:w≠ascii "claim"∧w≠ascii "weight"∧w≠ascii "says"∧w≠ascii "denies"∧w≠ascii "seen"∧w≠ascii "unseen"∧w≠ascii "for"∧w≠ascii "against"∧w≠ascii "penalty"∧w≠ascii "redress"):formP w=none:=by
 obtain ⟨h0,h1,h2,h3,h4,h5,h6,h7,h8,h9⟩:=h;have e:∀ {s:Bytes},w≠s→decide (s=w)=false:=fun h=>decide_eq_false fun z=>h z.symm;simp only [formP,formsOf,List.find?_cons,e h0,e h1,e h2,e h3,e h4,e h5,e h6,e h7,e h8,e h9,List.find?_nil,Option.map_none]
theorem zt0 {w:Bytes}{r:List Bytes}(h:w≠ascii "claim"∧w≠ascii "weight"∧w≠ascii "says"∧w≠ascii "denies"∧w≠ascii "seen"∧w≠ascii "unseen"∧w≠ascii "for"∧w≠ascii "against"∧w≠ascii "penalty"∧w≠ascii "redress"):lineOf (w::r)=none:=by
 obtain ⟨h0,h1,h2,h3,h4,h5,h6,h7,h8,h9⟩:=h;simp only [lineOf,if_neg h0,if_neg h1,if_neg h2,if_neg h3,if_neg h4,if_neg h5,if_neg h6,if_neg h7,if_neg h8,if_neg h9]
abbrev told (x:Line):Parts×List Cond:=(lineParts x,lineConds x)
theorem zth (r:List Bytes):readW (ascii "claim"::r)=(lineOf (ascii "claim"::r)).map told:=by
 rw [zrt];simp only [readW,zt7];match r with
 | []=>rfl
 | [n]=>
  by_cases h:claimName n=true
  ·simp [fillAll,Part.ok,Part.claimS,Part.whoS,Part.amountI,h,isCond,noParts,told,lineParts,lineConds]
  ·simp [fillAll,Part.ok,h]
 | n::m::t=>
  by_cases h:claimName n=true
  ·simp [fillAll,Part.ok,h,isCond]
  ·simp [fillAll,Part.ok,h]
theorem zv4 (r:List Bytes):readW (ascii "seen"::r)=(lineOf (ascii "seen"::r)).map told:=by
 rw [zty];simp only [readW,zwt];match r with
 | []=>rfl
 | [n]=>
  by_cases h:claimName n=true
  ·simp [fillAll,Part.ok,Part.claimS,Part.whoS,Part.amountI,h,isCond,noParts,told,lineParts,lineConds]
  ·simp [fillAll,Part.ok,h]
 | n::m::t=>
  by_cases h:claimName n=true
  ·simp [fillAll,Part.ok,h,isCond]
  ·simp [fillAll,Part.ok,h]
theorem zq4 (r:List Bytes):readW (ascii "unseen"::r)=(lineOf (ascii "unseen"::r)).map told:=by
 rw [zpg];simp only [readW,zr1];match r with
 | []=>rfl
 | [n]=>
  by_cases h:claimName n=true
  ·simp [fillAll,Part.ok,Part.claimS,Part.whoS,Part.amountI,h,isCond,noParts,told,lineParts,lineConds]
  ·simp [fillAll,Part.ok,h]
 | n::m::t=>
  by_cases h:claimName n=true
  ·simp [fillAll,Part.ok,h,isCond]
  ·simp [fillAll,Part.ok,h]
theorem zq3 (r:List Bytes):readW (ascii "weight"::r)=(lineOf (ascii "weight"::r)).map told:=by
 rw [zpf];simp only [readW,zr0];match r with
 | []=>rfl
 | [a]=>rfl
 | [a,n]=>
  by_cases h:nameOk a=true
  ·by_cases h2:numP 9 n=0
   ·simp [fillAll,Part.ok,h,h2]
   ·simp [fillAll,Part.ok,Part.claimS,Part.whoS,Part.amountI,h,h2,isCond,noParts,told,lineParts,lineConds]
  ·simp [fillAll,Part.ok,h]
 | a::n::m::t=>
  by_cases h:nameOk a=true
  ·by_cases h2:numP 9 n=0
   ·simp [fillAll,Part.ok,h,h2]
   ·simp [fillAll,Part.ok,h,h2,isCond]
  ·simp [fillAll,Part.ok,h]
theorem zv5 (r:List Bytes):readW (ascii "says"::r)=(lineOf (ascii "says"::r)).map told:=by
 rw [ztz];simp only [readW,zwu];match r with
 | []=>rfl
 | [a]=>rfl
 | [a,n]=>
  by_cases h:nameOk a=true
  ·by_cases h2:claimName n=true
   ·simp [fillAll,Part.ok,Part.claimS,Part.whoS,Part.amountI,h,h2,isCond,noParts,told,lineParts,lineConds]
   ·simp [fillAll,Part.ok,h,h2]
  ·simp [fillAll,Part.ok,h]
 | a::n::m::t=>
  by_cases h:nameOk a=true
  ·by_cases h2:claimName n=true
   ·simp [fillAll,Part.ok,h,h2,isCond]
   ·simp [fillAll,Part.ok,h,h2]
  ·simp [fillAll,Part.ok,h]
theorem zq5 (r:List Bytes):readW (ascii "denies"::r)=(lineOf (ascii "denies"::r)).map told:=by
 rw [zph];simp only [readW,zr2];match r with
 | []=>rfl
 | [a]=>rfl
 | [a,n]=>
  by_cases h:nameOk a=true
  ·by_cases h2:claimName n=true
   ·simp [fillAll,Part.ok,Part.claimS,Part.whoS,Part.amountI,h,h2,isCond,noParts,told,lineParts,lineConds]
   ·simp [fillAll,Part.ok,h,h2]
  ·simp [fillAll,Part.ok,h]
 | a::n::m::t=>
  by_cases h:nameOk a=true
  ·by_cases h2:claimName n=true
   ·simp [fillAll,Part.ok,h,h2,isCond]
   ·simp [fillAll,Part.ok,h,h2]
  ·simp [fillAll,Part.ok,h]
theorem readW_for (r:List Bytes):readW (ascii "for"::r)=(lineOf (ascii "for"::r)).map told:=by
 rw [zwi];simp only [readW,formP_for];match r with
 | []=>rfl
 | [a]=>rfl
 | a::i::s=>
  by_cases h:claimName a=true
  ·by_cases h2:i=ascii "if"
   ·by_cases h3:condsL s=[]
    ·simp [fillAll,Part.ok,h,h2,h3,isCond]
    ·simp [fillAll,Part.ok,Part.claimS,Part.whoS,Part.amountI,h,h2,h3,isCond,noParts,told,lineParts,lineConds]
   ·simp [fillAll,Part.ok,h,h2]
  ·simp [fillAll,Part.ok,h]
theorem zot (r:List Bytes):readW (ascii "against"::r)=(lineOf (ascii "against"::r)).map told:=by
 rw [zmz];simp only [readW,zpm];match r with
 | []=>rfl
 | [a]=>rfl
 | a::i::s=>
  by_cases h:claimName a=true
  ·by_cases h2:i=ascii "if"
   ·by_cases h3:condsL s=[]
    ·simp [fillAll,Part.ok,h,h2,h3,isCond]
    ·simp [fillAll,Part.ok,Part.claimS,Part.whoS,Part.amountI,h,h2,h3,isCond,noParts,told,lineParts,lineConds]
   ·simp [fillAll,Part.ok,h,h2]
  ·simp [fillAll,Part.ok,h]
theorem zoq (r:List Bytes):readW (ascii "redress"::r)=(lineOf (ascii "redress"::r)).map told:=by
 rw [zmx];simp only [readW,zpk];match r with
 | []=>rfl
 | [a]=>rfl
 | a::i::s=>
  by_cases h:nameOk a=true
  ·by_cases h2:i=ascii "if"
   ·by_cases h3:condsL s=[]
    ·simp [fillAll,Part.ok,h,h2,h3,isCond]
    ·simp [fillAll,Part.ok,Part.claimS,Part.whoS,Part.amountI,h,h2,h3,isCond,noParts,told,lineParts,lineConds]
   ·simp [fillAll,Part.ok,h,h2]
  ·simp [fillAll,Part.ok,h]
theorem zor (r:List Bytes):readW (ascii "penalty"::r)=(lineOf (ascii "penalty"::r)).map told:=by
 rw [zmy];simp only [readW,zpl];match r with
 | []=>rfl
 | [a]=>rfl
 | [a,n]=>rfl
 | a::n::i::s=>
  by_cases h:nameOk a=true
  ·by_cases h1:numP 99 n=0
   ·simp [fillAll,Part.ok,h,h1]
   ·by_cases h2:i=ascii "if"
    ·by_cases h3:condsL s=[]
     ·simp [fillAll,Part.ok,h,h1,h2,h3,isCond]
     ·simp [fillAll,Part.ok,Part.claimS,Part.whoS,Part.amountI,h,h1,h2,h3,isCond,noParts,told,lineParts,lineConds]
    ·simp [fillAll,Part.ok,h,h1,h2]
  ·simp [fillAll,Part.ok,h]
theorem zos (ws:List Bytes):readW ws=(lineOf ws).map told:=by
 cases ws with
 | nil=>rfl
 | cons w r=>
  by_cases h0:w=ascii "claim"
  ·subst h0;exact zth r
  by_cases h1:w=ascii "weight"
  ·subst h1;exact zq3 r
  by_cases h2:w=ascii "says"
  ·subst h2;exact zv5 r
  by_cases h3:w=ascii "denies"
  ·subst h3;exact zq5 r
  by_cases h4:w=ascii "seen"
  ·subst h4;exact zv4 r
  by_cases h5:w=ascii "unseen"
  ·subst h5;exact zq4 r
  by_cases h6:w=ascii "for"
  ·subst h6;exact readW_for r
  by_cases h7:w=ascii "against"
  ·subst h7;exact zot r
  by_cases h8:w=ascii "penalty"
  ·subst h8;exact zor r
  by_cases h9:w=ascii "redress"
  ·subst h9;exact zoq r
  have h:=And.intro h0 (And.intro h1 (And.intro h2 (And.intro h3 (And.intro h4 (And.intro h5 (And.intro h6 (And.intro h7 (And.intro h8 h9))))))));rw [zt0 h];simp only [readW,zwv h,Option.map_none]
theorem zt1 {w:Bytes}{r:List Bytes}{x:Line}(h:lineOf (w::r)=some x):lineKind x=w:=by
 have e:=(zj5 h).2;cases x with
 | word s _ _=>cases s <;> exact (List.cons.inj e).1
 | seen s _=>cases s <;> exact (List.cons.inj e).1
 | rule s _ _=>cases s <;> exact (List.cons.inj e).1
 | _=>exact (List.cons.inj e).1
end
end
section
open PySem PySem.Spec PyProof.Rows L2
open RgCase (Bytes ascii nameOk claimName cutAt Line Cond)
section
variable {P:Program}{w:World}{K:PySem.W.Frag}{mg:Str→Option Value}{base:Heap}{ad:Ads}
theorem zum (w:Bytes):∀ {qs:List (Str×Tok×Addr)} {fs:List (Bytes×List Part)},Paired (fun (q:Str×Tok×Addr) (p:Bytes×List Part)=>q.1=toS p.1∧TupG K q.2.2 (p.2.map Part.str)) qs fs→
  ((fs.find? fun q=>decide (q.1=w)).map (·.2)=none→tabLook qs (toS w)=.non)∧(∀ ps,(fs.find? fun q=>decide (q.1=w)).map (·.2)=some ps→∃ a,tabLook qs (toS w)=.ref a∧TupG K a (ps.map Part.str))
 | _,_,.nil=>⟨fun _=>rfl,fun ps h=>by cases h⟩
 | q::qs,f::fs,.cons ⟨e,t⟩ r=>by
  obtain ⟨i1,i2⟩:=zum w r;unfold tabLook at i1 i2 ⊢;rw [List.find?_cons,List.find?_cons];by_cases h:f.1=w
  ·have h1:decide (f.1=w)=true:=decide_eq_true h;have h2:decide (q.1=toS w)=true:=decide_eq_true (by rw [e,h])
   rw [h1,h2];refine ⟨fun z=>(by cases z),fun ps hp=>⟨q.2.2,rfl,?_⟩⟩
   have:f.2=ps:=Option.some.inj hp;rw [←this];exact t
  ·have h1:decide (f.1=w)=false:=decide_eq_false h;have h2:decide (q.1=toS w)=false:=decide_eq_false fun z=>h (zle (e▸z));rw [h1,h2];exact ⟨i1,i2⟩
structure LineObj (C:Addr)(H:Hp)(p:Addr)(x:Line)(l:Addr)(ps:List Addr):Prop where
 line:LineAt C H p (toS (lineKind x)) (lineParts x).claim (lineParts x).who (lineParts x).amount l
 conds:CondsAt H l ps (lineConds x)
def zgq (C:Addr):Sp:=fun vs H Q _=>∃ b:Bytes,vs=[.str (toS b)]∧b.length≤100000∧(∀ c∈b,c.toNat<128)∧(lineOf (cutAt 32 b)=none→∀ H',Same H H'→Q .non H')∧
 ∀ x,lineOf (cutAt 32 b)=some x→∀ (H':Hp) (p l:Addr) (ps:List Addr),LineObj C H' p x l ps→H p=none→H l=none→(∀ q∈ps,H q=none)→Same H H'→Q (.ref p) H'
theorem zud (x:UInt8):∀ b:Bytes,(cutAt x b).length≤b.length+1∧∀ w∈cutAt x b,w.length≤b.length∧∀ c∈w,c∈b
 | []=>⟨by simp [cutAt],by simp [cutAt]⟩
 | c::r=>by
  obtain ⟨h1,h2⟩:=zud x r;by_cases e:c=x
  ·subst e;rw [zaz];refine ⟨by simp only [List.length_cons];omega,fun w hw=>?_⟩
   rcases List.mem_cons.mp hw with rfl | hw
   ·exact ⟨Nat.zero_le _,by simp⟩
   ·exact ⟨Nat.le_succ_of_le (h2 w hw).1,fun d hd=>List.mem_cons_of_mem _ ((h2 w hw).2 d hd)⟩
  ·obtain ⟨l,m,e1,e2⟩:=zay e r;rw [e1] at h1 h2;rw [e2];refine ⟨by simp only [List.length_cons] at h1 ⊢;omega,fun w hw=>?_⟩
   rcases List.mem_cons.mp hw with rfl | hw
   ·refine ⟨by have:=(h2 l List.mem_cons_self).1;simp only [List.length_cons];omega,fun d hd=>?_⟩
    rcases List.mem_cons.mp hd with rfl | hd
    ·exact List.mem_cons_self
    ·exact List.mem_cons_of_mem _ ((h2 l List.mem_cons_self).2 d hd)
   ·exact ⟨Nat.le_succ_of_le (h2 w (List.mem_cons_of_mem _ hw)).1,fun d hd=>List.mem_cons_of_mem _ ((h2 w (List.mem_cons_of_mem _ hw)).2 d hd)⟩
theorem zk8 (xs:List V)(k:Nat):cutV xs (some (k:Int)) none=xs.drop k:=by
 unfold cutV;rw [HT.ztd,HT.sIx_none];by_cases h:k≤xs.length
 ·rw [Nat.min_eq_left h,List.take_of_length_le (by rw [List.length_drop];exact Nat.le_refl _)]
 ·rw [Nat.min_eq_right (by omega),List.drop_of_length_le (by omega),List.drop_of_length_le (by omega)]
  simp
theorem zww {w:Bytes}{ps:List Part}(h:formP w=some ps):∃ i l,ps=i++[l]:=by
 have key:∀ q∈formsOf,q.2≠[]:=by decide +kernel
 obtain ⟨q,hq,e⟩:=zix h;have hm:=key q (List.mem_of_find?_eq_some hq);rw [e] at hm;exact ⟨ps.dropLast,ps.getLast hm,(List.dropLast_concat_getLast hm).symm⟩
theorem part_if (p:Part):(p.str=Str.ofString "if")↔p=.cond:=by
 cases p <;> decide +kernel
theorem zr5 {ps:List Part}{r:List Bytes}{s0 s:Parts}{i:Nat}(hi:i<ps.length)(hr:i<r.length)(h:fillAll ps r s0=fillAll (ps.drop i) (r.drop i) s):
  fillAll ps r s0=if (ps[i]).ok r[i]=true then fillAll (ps.drop (i+1)) (r.drop (i+1)) ⟨(ps[i]).claimS r[i] s.claim,(ps[i]).whoS r[i] s.who,(ps[i]).amountI r[i] s.amount⟩ else none:=by
 rw [h,zpp hi,zpp hr,fillAll]
def rlP (C:Addr)(H:Hp)(b w0:Bytes)(r:List Bytes)(ps:List Part)(lw pa p l:Addr)(i:Nat)(σ:L2.St)(H':Hp):Prop:=∃ (v4 v5:Option V) (s:Parts),σ=[some (.str (toS b)),some (.ref lw),some (.ref pa),some (.ref p),v4,v5,none]∧
 LineAt C H' p (toS w0) s.claim s.who s.amount l∧H' lw=some (.lst ((w0::r).map fun w=>V.str (toS w)))∧H' l=some (.lst [])∧Same H H'∧fillAll ps r noParts=fillAll (ps.drop i) (r.drop i) s
theorem s_blank:Str.ofString " "=toS [32]:=by decide +kernel
abbrev zec:Stmt:=top 26
theorem zb4:FnScope ["signs","words","parts","line","place","part","rest"] ["signs"] (defScope zec):=⟨rfl,rfl,rfl,by decide +kernel,rfl,by decide +kernel,by decide +kernel⟩
theorem zsm:BindOk "read_line" "read_line" zec ["signs"]:=fun _ _ _ _ _ _=>ls1 fun _=>rfl
theorem zrj (D:DefAt K mg "read_line" zec)(T:TxtF ad w K mg)(C:ClsLine K ad.cLine)(O_Line:OwnC P w K mg base "Line" ad.cLine 1 ["self","kind"] (zgv ad.cLine))(O_fill_part:Own P w K mg base "fill_part" 3 ["line","part","word"] (zgr ad.cLine))(O_read_conditions:Own P w K mg base "read_conditions" 3 ["words"] zcx):
  Own P w K mg base "read_line" 4 ["signs"] (zgq ad.cLine):=by
 refine za5 D zb4 zsm (fun vs H Q E h=>?_) (fun f cdv A outer s H vs Q E hr h=>?_)
 ·obtain ⟨b,rfl,_⟩:=h;rfl
 ·obtain ⟨b,rfl,hb,ha,k0,k1⟩:=h;refine ⟨_,(zad (zat (i:=1) zb4.nd rfl (Or.inl rfl) (zu0 (pv 0) zaw))
   (zad (zat (i:=2) zb4.nd rfl (Or.inl rfl) (pe_tab T.t_FORMS T.g_FORMS (zbt zax (pv 1) zan (fun _ _=>rfl)) ⟨rfl,rfl,rfl,rfl⟩))
   (zad (zav (zv7 (zai op_isN (pv 2) zno (nomark _)) (zq6 (zai op_le (zao zap (by rfl) T.b_len PySem.boot_len (zab (pv 1) zaf)) (zao zap (by rfl) T.b_len PySem.boot_len (zab (pv 2) zaf)) (nomark _)))).pt (zae (zak zno)) zam)
   (zad (zat (i:=3) zb4.nd rfl (Or.inl rfl) (pe_newc O_Line (hr.mono (by decide)) (zab (zbt zax (pv 1) zan (fun _ _=>rfl)) zaf)))
   (zad (zim PassesOwn.never rfl (pi_enumT rfl T.b_enumerate (zab (pv 2) zaf)) (zra rfl (zdm (zbj (i:=4) zb4.nd rfl (Or.inl rfl)) (zdm (zbj (i:=5) zb4.nd rfl (Or.inl rfl)) zlp)))
    (zae (zav (zq7 (zev (zar O_fill_part (hr.mono (by decide)) (zab (pv 3) (zab (pv 5) (zab (zbt zax (pv 1) (zc6 zgh (pv 4) zan) (fun _ _=>rfl)) zaf)))))) (zae (zak zno)) zam)))
   (zad (zat (i:=6) zb4.nd rfl (Or.inl rfl) (ziq zli (pv 1) (zjj (zc6 zgh (zao zap (by rfl) T.b_len PySem.boot_len (zab (pv 2) zaf)) zan)) zou))
   (zad (zav (zai zmp (zbt zl4 (pv 2) (pe_un un_neg zan) (fun _ _=>rfl)) zaw (nomark _)) (zae (zak (zcj (zai zcd (zao zap (by rfl) T.b_len PySem.boot_len (zab (pv 6) zaf)) zan (nomark _)) (pv 3) zno))) zam)
   (zad (zbc (pv 3) (zar O_read_conditions (hr.mono (by decide)) (zab (pv 6) zaf)) rfl)
   (zae (zak (zcj (zai zoz (zao zap (by rfl) T.b_len PySem.boot_len (zab (zah (pv 3) rfl) zaf)) zan (nomark _)) (pv 3) zno))))))))))),?_⟩
  obtain ⟨w0,r,hws⟩:∃ w0 r,cutAt 32 b=w0::r:=by
   cases e:cutAt 32 b with
   | nil=>exact absurd e (zcw 32 b)
   | cons w0 r=>exact ⟨w0,r,rfl⟩
  have hcl:=zud 32 b;rw [hws] at k0 k1 hcl;have hsp:(Txt.split (toS b) (Str.ofString " ")).map V.str=(w0::r).map fun w=>V.str (toS w):=by
   rw [s_blank,zqr,hws,List.map_map];rfl
  walk_at "rd"
  refine ⟨⟨_,rfl⟩,rfl,by rw [ze1];exact Nat.le_trans (Nat.add_le_add_right hb 2) (by decide),fun lw hlw=>?_⟩
  rw [hsp];walk_at "rd"
  have hS1:Same H (upd H lw (.lst ((w0::r).map fun w=>V.str (toS w)))):=Same.new hlw;refine ⟨_,SqL.of zaa,_,zaj (j:=0) rfl,_,rfl,?_⟩;obtain ⟨f1,f2⟩:=zum (K:=K) w0 T.p_FORMS;cases hf:formP w0 with
  | none=>
   rw [f1 hf,if_pos rfl];refine k0 ?_ _ hS1;have:=zos (w0::r);simp only [readW,hf] at this;cases e:lineOf (w0::r) with
   | none=>rfl
   | some x=>rw [e] at this;cases this
  | some ps=>
   obtain ⟨pa,e1,tp⟩:=f2 ps hf;rw [e1,if_neg (by intro z;cases z)]
   have hsq:∀ H',SqT K H' pa ((ps.map Part.str).map V.str):=fun H'=>tp.sq H';have zjk:readW (w0::r)=none→lineOf (w0::r)=none:=fun h=>by
    rw [zos] at h;cases e:lineOf (w0::r) with
    | none=>rfl
    | some x=>rw [e] at h;cases h
   refine ⟨_,lenL zaa,_,.inr ⟨_,hsq _,rfl⟩,?_⟩;simp only [List.length_map,List.length_cons];by_cases hl:r.length<ps.length
   ·rw [if_pos (by omega)]
    refine k0 (zjk ?_) _ hS1;simp only [readW,hf,if_pos hl]
   ·rw [if_neg (by omega)]
    refine ⟨_,SqL.of zaa,_,zaj (j:=0) rfl,fun p dx np nd ndp=>?_⟩;refine ⟨p,dx,toS w0,rfl,zaa,fun H2 l hp2 hl2 nl2 hB2=>⟨rfl,?_⟩⟩;have npH:H p=none:=hS1.free np;have ndH:H dx=none:=hS1.free nd;have S2:Same H H2:=fun q o e=>hB2 q o (by rw [zac (zag e npH),zac (zag e ndH)];exact hS1 q o e) (zag e npH)
    have nlp:l≠p:=fun e=>by rw [e,zaa] at nl2;cases nl2
    have nldx:l≠dx:=fun e=>by rw [e,zac ndp,zaa] at nl2;cases nl2
    have nlH:H l=none:=by
     rw [zac nlp,zac nldx] at nl2;exact hS1.free nl2
    have lwp:lw≠p:=fun e=>by rw [←e,zaa] at np;cases np
    have lwd:lw≠dx:=fun e=>by rw [←e,zaa] at nd;cases nd
    have hlw2:H2 lw=some (.lst ((w0::r).map fun w=>V.str (toS w))):=hB2 lw _ (by rw [zac lwp,zac lwd,zaa];rfl) lwp
    refine ⟨_,rfl,pa,_,rfl,hsq _,for_enumT (K:=K) (a:=pa) (xs:=(ps.map Part.str).map V.str) (rlP ad.cLine H b w0 r ps lw pa p l) ⟨none,none,noParts,rfl,⟨dx,hp2⟩,hlw2,hl2,S2,by simp⟩ (fun i σ H' _ _=>hsq H') ?_ ?_⟩
    ·rintro i x σ H' T' hx ⟨v4,v5,s,rfl,hL,hW,hl',hS,hF⟩ hT;obtain ⟨hi,hx'⟩:∃ hi:i<ps.length,x=V.str (ps[i]).str:=by
      rw [List.getElem?_map,List.getElem?_map] at hx;cases e:ps[i]? with
      | none=>rw [e] at hx;cases hx
      | some q=>
       rw [e] at hx;obtain ⟨h1,h2⟩:=List.getElem?_eq_some_iff.mp e;refine ⟨h1,?_⟩;rw [h2];exact (Option.some.inj hx).symm
     subst hx';have hir:i<r.length:=by omega
     have hF':=zr5 hi hir hF;walk_at "rd"
     refine ⟨_,SqT.of zaa,rfl,?_⟩;have hmem:r[i]∈w0::r:=List.mem_cons_of_mem _ (List.getElem_mem _);have ei:((w0::r).map fun w=>V.str (toS w))[i+1]? = some (.str (toS r[i])):=by simp [hir]
     have nT:∀ {q:Addr} {o:HO},H' q=some o→upd H' T' (.tup [.int (i:Nat),.str (ps[i]).str]) q=some o:=fun e=>by rw [zac (zag e hT)];exact e
     obtain ⟨dx',hL'⟩:=hL;refine ⟨_,_,rfl,_,_,rfl,rfl,_,rfl,_,SqL.of (nT hW),_,zaj ei,?_⟩;refine ⟨p,ps[i],r[i],toS w0,s.claim,s.who,s.amount,l,rfl,⟨dx',nT hL'⟩,Nat.le_trans (hcl.2 _ hmem).1 (Nat.le_trans hb (by decide)),fun c hc=>ha c ((hcl.2 _ hmem).2 c hc),fun H3 hL3 hB3 _=>⟨_,rfl,?_⟩⟩
     have S3:Same H H3:=fun q o e=>hB3 q o (nT (hS q o e)) (zag e npH);by_cases hq:(ps[i]).ok r[i]=true
     ·rw [if_neg (by rw [hq];decide)]
      rw [if_pos hq] at hF';exact ⟨_,_,_,rfl,hL3,hB3 lw _ (nT hW) lwp,hB3 l _ (nT hl') nlp,S3,hF'⟩
     ·rw [if_pos (by simpa using hq)]
      rw [if_neg hq] at hF';refine k0 (zjk ?_) _ S3;simp only [readW,hf,if_neg hl,hF']
    ·rintro σ H' ⟨v4,v5,s,rfl,⟨dx',hL⟩,hW,hl',hS,hF⟩;rw [List.length_map,List.length_map,List.drop_length] at hF;have hF':fillAll ps r noParts=some s:=hF;obtain ⟨ini,lst,hps⟩:=zww hf;have hRW:readW (w0::r)=if isCond ps.getLast? = true then (if condsL (r.drop ps.length)=[] then none else some (s,condsL (r.drop ps.length))) else if r.drop ps.length=[] then some (s,[]) else none:=by
      simp only [readW,hf,if_neg hl,hF']
     have hgl:ps.getLast? = some lst:=by rw [hps];simp
     rw [hgl] at hRW;have zje:∀ {cs:List Cond},readW (w0::r)=some (s,cs)→∃ x,lineOf (w0::r)=some x∧lineParts x=s∧lineConds x=cs∧lineKind x=w0:=fun {cs} h=>by
      rw [zos] at h;obtain ⟨x,hx,e⟩:=zix h;exact ⟨x,hx,congrArg Prod.fst e,congrArg Prod.snd e,zt1 hx⟩
     have hrest:cutV ((w0::r).map fun w=>V.str (toS w)) (some ((ps.length:Int)+1)) none=(r.drop ps.length).map fun w=>V.str (toS w):=by
      have:=zk8 ((w0::r).map fun w=>V.str (toS w)) (ps.length+1);rw [←List.map_drop] at this;exact this
     walk_at "rd"
     refine ⟨_,.inr ⟨_,hsq _,rfl⟩,_,SqL.of hW,fun lr hlr=>?_⟩;simp only [List.length_map];rw [hrest];have nr:∀ {q:Addr} {o:HO},H' q=some o→upd H' lr (.lst ((r.drop ps.length).map fun w=>V.str (toS w))) q=some o:=fun e=>by rw [zac (zag e hlr)];exact e
     have S4:Same H (upd H' lr (.lst ((r.drop ps.length).map fun w=>V.str (toS w)))):=fun q o e=>nr (hS q o e);have hlast:atI ((ps.map Part.str).map V.str) (-1)=some (.str lst.str):=by
      rw [hps,List.map_append,List.map_append];exact atI_last _ _
     refine ⟨_,hsq _,_,hlast,rfl,?_⟩;by_cases hc:lst=.cond
     ·have hc':isCond (some lst)=true:=by rw [hc];rfl
      rw [if_neg (by rw [hc];exact fun z=>z rfl)]
      rw [if_pos hc'] at hRW;refine ⟨lr,r.drop ps.length,rfl,zaa,?_,fun w hw=>?_,fun H5 l5 ps5 hC5 nl5 nps5 S5=>?_⟩
      ·rw [List.length_drop];have:=hcl.1;simp only [List.length_cons] at this;omega
      ·exact Nat.le_trans (hcl.2 w (List.mem_cons_of_mem _ (List.mem_of_mem_drop hw))).1 (Nat.le_trans hb (by decide))
      ·have hp5:=S5 _ _ (nr hL);have S6:Same H H5:=S4.trans S5;refine ⟨_,_,_,hp5,C.cl,C.n5,(by show 5<1000;decide),_,_,_,zaa,C.cl,C.n5,.ref l5,(by rw [zgi];exact zpi _ _ _ _ _),(ps5.map V.ref).length,?_⟩
       have l5p:l5≠p:=zdd hC5.lst hp5 (by intro z;cases z)
       rw [zgi];refine ⟨lenL (by rw [zac l5p];exact hC5.lst),?_⟩
       have hlen:ps5.length=(condsL (r.drop ps.length)).length:=Paired.length hC5.tup;rw [List.length_map,hlen];have S7:Same H (upd H5 p (.ins ad.cLine dx' (lineF (toS w0) s.claim s.who s.amount l5))):=HC.Same.upd S6 npH;have nl5H:H l5=none:=S4.free nl5;by_cases he:condsL (r.drop ps.length)=[]
       ·rw [he,if_neg (by simp)]
        rw [if_pos he] at hRW;exact k0 (zjk hRW) _ S7
       ·rw [if_pos (by have:=List.length_pos_iff.mpr he;omega)]
        rw [if_neg he] at hRW;obtain ⟨x,hx,ep,ec,ek⟩:=zje hRW;refine k1 x hx _ p l5 ps5 ⟨?_,?_⟩ npH nl5H (fun q hq=>S4.free (nps5 q hq)) S7
        ·rw [ep,ek];exact ⟨dx',zaa⟩
        ·rw [ec];refine ⟨by rw [zac l5p];exact hC5.lst,Paired.zfc hC5.tup fun q _ _ hq=>?_⟩
         rw [zac (zdd hq hp5 (by intro z;cases z))]
         exact hq
     ·have hc':isCond (some lst)=false:=by
       cases lst <;> first | rfl | exact absurd rfl hc
      rw [if_pos (by intro z;exact hc ((part_if lst).mp (V.str.inj z)))]
      rw [hc',if_neg (by decide)] at hRW
      refine ⟨_,lenL zaa,?_⟩;rw [List.length_map];by_cases he:r.drop ps.length=[]
      ·rw [he,if_pos (by simp)]
       rw [if_pos he] at hRW;obtain ⟨x,hx,ep,ec,ek⟩:=zje hRW;rw [he] at nr S4;refine k1 x hx _ p l [] ⟨?_,?_⟩ npH nlH (by simp) S4
       ·rw [ep,ek];exact ⟨dx',nr hL⟩
       ·rw [ec];exact ⟨nr hl',.nil⟩
      ·rw [if_neg (by have:=List.length_pos_iff.mpr he;omega)]
       rw [if_neg he] at hRW;exact k0 (zjk hRW) _ S4
end
end
section
open PySem PySem.Spec PyProof.Rows L2
open RgCase (Bytes ascii nameOk claimName cutAt Line Cond)
section
variable {P:Program}{w:World}{K:PySem.W.Frag}{mg:Str→Option Value}{base:Heap}{ad:Ads}
def signCodes:List Nat:=(Str.ofString "abcdefghijklmnopqrstuvwxyz0123456789 \n").cps.toList
def signKv (c:Nat):Key×V:=(Sum.inl (c:Int),V.str ⟨#[c]⟩)
def signKvs (l:List Nat):List (Key×V):=l.map signKv
theorem zs7:signCodes.Nodup:=by decide +kernel
theorem zqt {l:List Nat}{c:Nat}(h:c∉l):valV (signKvs l) (Sum.inl (c:Int))=none:=by
 unfold valV signKvs;rw [List.find?_eq_none.mpr]
 ·rfl
 ·intro q hq;obtain ⟨x,hx,rfl⟩:=List.mem_map.mp hq;have:x≠c:=fun e=>h (e▸hx);have:¬ (Sum.inl (x:Int):Key)=Sum.inl (c:Int):=fun e=>this (by have:=Sum.inl.inj e;omega)
  simpa [signKv] using this
theorem zvx (c:UInt8):(valV (signKvs signCodes) (Sum.inl (c.toNat:Int))).getD (.str (Str.ofString "?"))=.str (toS [canon c]):=by
 have h:∀ n:Fin 256,(valV (signKvs signCodes) (Sum.inl (n.1:Int))).getD (.str (Str.ofString "?"))=.str (toS [canon (UInt8.ofNat n.1)]):=by decide +kernel
 have:=h ⟨c.toNat,c.toNat_lt⟩;rw [UInt8.ofNat_toNat] at this;exact this
theorem zrz:∀ (bs:Bytes) (acc:Array Nat),(bs.map fun c=>toS [c]).foldl (fun acc p=>acc++(Str.ofString "").cps++p.cps) acc=acc++(bs.map UInt8.toNat).toArray
 | [],acc=>by simp
 | c::r,acc=>by
  rw [List.map_cons,List.foldl_cons,zrz r];have:(Str.ofString "").cps=#[]:=by decide +kernel
  rw [this];simp [toS]
theorem zwn (bs:Bytes):Txt.join (Str.ofString "") (bs.map fun c=>toS [c])=toS bs:=by
 unfold Txt.join Builtin.Str.glued toS;cases bs with
 | nil=>rfl
 | cons c r=>
  have:=zrz r #[c.toNat];simp only [List.map_cons,List.drop_succ_cons,List.drop_zero,List.headD_cons];congr 1
  refine Eq.trans this ?_;simp
theorem zun:∀ bs:Bytes,(bs.map ((fun (x:Str)=>x.length) ∘ fun c=>toS [canon c])).sum=bs.length
 | []=>rfl
 | c::r=>by
  rw [List.map_cons,List.sum_cons,zun r,List.length_cons];show 1+r.length=_;omega
def zfr:Sp:=fun vs H Q _=>∃ (a:Addr) (bs:Bytes),vs=[.ref a]∧H a=some (.lst (bs.map fun c=>V.int (c.toNat:Nat)))∧bs.length≤2000000∧∀ H',Same H H'→Q (.str (toS (bs.map canon))) H'
abbrev zd3:Stmt:=top 19
theorem zea:FnScope ["numbers","signs","sign","number"] ["numbers"] (defScope zd3):=⟨rfl,rfl,rfl,by decide +kernel,rfl,by decide +kernel,by decide +kernel⟩
theorem zuh:BindOk "signs_of" "signs_of" zd3 ["numbers"]:=fun _ _ _ _ _ _=>ls1 fun _=>rfl
theorem ztn (D:DefAt K mg "signs_of" zd3)(T:TxtF ad w K mg):Own P w K mg base "signs_of" 1 ["numbers"] zfr:=by
 refine za5 D zea zuh (fun vs H Q E h=>?_) (fun f cdv A outer s H vs Q E hr h=>?_)
 ·obtain ⟨a,bs,rfl,_⟩:=h;rfl
 ·obtain ⟨a,bs,rfl,hA,hn,k⟩:=h;have hu:=zf8 hr;refine ⟨_,(zad (zat (i:=1) zea.nd rfl (Or.inr rfl) zf3)
   (zad (zim PassesOwn.never rfl (pi_str (ztl T.g_TEXT_SIGNS)) (zbj (i:=2) zea.nd rfl (Or.inl rfl))
    (zae (zlo hu (pv 1) (zao zvl (by rfl) T.b_ord boot_ord (zab (pv 2) zaf)) (pv 2) rfl)))
   (zae (zak (pe_join zaw (ztk (own:=[("number",3)]) rfl zea.nd (zfb (pv 0)) (ze0 (N:=["numbers","signs","sign","number"]) (sc:=defScope zd3) (by decide +kernel)) (fun _ _ _ _ _=>(zbj (i:=3) zea.nd rfl (Or.inl rfl))) (fun _ _ _ _ _=>zln) (fun _ _ _ _ _=>(zow hu (pv 1) (pv 3) (ztl T.g_STRANGE_SIGN) ⟨rfl,rfl,rfl,rfl⟩)))))))),?_⟩
  walk_at "rd"
  intro d hd;have nad:a≠d:=zag hA hd;refine ⟨_,rfl,for_str (x:=Str.ofString "abcdefghijklmnopqrstuvwxyz0123456789 \n") (fun i σ H'=>(∃ v2,σ=[some (.ref a),some (.ref d),v2,none])∧H' d=some (.dK (signKvs (signCodes.take i)))∧Same H H') ⟨⟨_,rfl⟩,zaa,Same.new hd⟩ ?_ ?_⟩
  ·rintro i c σ H' hc ⟨⟨v2,rfl⟩,hD,hS⟩;walk_at "rd"
   have hc':signCodes[i]? = some c:=by
    unfold signCodes;rw [Array.getElem?_toList];exact hc
   have hi:i<signCodes.length:=(List.getElem?_eq_some_iff.mp hc').1;have ht:signCodes.take (i+1)=signCodes.take i++[c]:=by rw [List.take_add_one,hc'];rfl
   have hnot:c∉signCodes.take i:=by
    have:=zs7;rw [←List.take_append_drop (i+1) signCodes,ht,List.append_assoc,List.nodup_append] at this;exact fun z=>this.2.2 c z c (by simp) rfl
   have hz:(signKvs (signCodes.take i)).length<sizeLine:=by
    unfold signKvs;rw [List.length_map,List.length_take];exact Nat.lt_of_le_of_lt (Nat.min_le_right _ _) (by decide +kernel)
   refine ⟨rfl,_,DPut.k (k:=Sum.inl (c:Int)) hD hz,⟨_,rfl⟩,?_,HC.Same.upd hS hd⟩;rw [zaa,zil _ (zqt hnot),ht];unfold signKvs;rw [List.map_append];rfl
  ·rintro σ H' ⟨⟨v2,rfl⟩,hD,hS⟩;have hall:signCodes.take (Str.ofString "abcdefghijklmnopqrstuvwxyz0123456789 \n").cps.size=signCodes:=by decide +kernel
   rw [hall] at hD;walk_at "rd"
   refine ⟨⟨_,rfl⟩,_,rfl,a,rfl,⟨_,SqL.of (hS _ _ hA)⟩,fun L hL=>?_⟩;have naL:a≠L:=zag (hS _ _ hA) hL;have ndL:d≠L:=zag hD hL;refine zjo (K:=K) (a:=a) (xs:=bs.map fun c=>V.int (c.toNat:Nat)) (fun i H2=>Same H' H2∧H2 L=some (.lst ((bs.take i).map fun c=>V.str (toS [canon c])))) ⟨Same.new hL,zaa⟩ (fun i H2 _ ⟨S2,_⟩=>SqL.of (S2 _ _ (hS _ _ hA))) ?_ ?_
   ·rintro i x H2 hx ⟨S2,hL2⟩;obtain ⟨c,hc,rfl⟩:∃ c,bs[i]? = some c∧x=V.int (c.toNat:Nat):=by
     rw [List.getElem?_map] at hx;cases e:bs[i]? with
     | none=>rw [e] at hx;cases hx
     | some c=>
      rw [e] at hx;exact ⟨c,rfl,(Option.some.inj hx).symm⟩
    have hi:i<bs.length:=(List.getElem?_eq_some_iff.mp hc).1;refine ⟨rfl,?_⟩;simp only [tYes,if_true];have hD2:=S2 _ _ hD;refine ⟨.ref d,rfl,d,rfl,.inl ⟨_,.inl hD2⟩,.int (c.toNat:Nat),rfl,_,DGet.k (k:=Sum.inl (c.toNat:Int)) hD2,?_⟩;rw [zvx];refine ⟨_,hL2,?_,HC.Same.upd S2 hL,?_⟩
    ·rw [List.length_map,List.length_take];exact Nat.lt_of_le_of_lt (Nat.min_le_left _ _) (Nat.lt_of_lt_of_le hi (Nat.le_trans hn (by decide)))
    ·rw [zaa,List.take_add_one,hc];simp
   ·rintro H2 ⟨S2,hL2⟩;rw [List.length_map,List.take_length] at hL2;refine ⟨L,rfl,bs.map (fun c=>toS [canon c]),.inl (SqL.of (by rw [hL2,List.map_map];rfl)),?_,?_⟩
    ·have e0:(Str.ofString "").length=0:=by decide +kernel
     rw [e0,Nat.mul_zero,Nat.add_zero,List.map_map];rw [zun];omega
    ·have:=zwn (bs.map canon);rw [List.map_map] at this;have e:(bs.map fun c=>toS [canon c])=bs.map ((fun c=>toS [c]) ∘ canon):=rfl;rw [e,this];exact k _ (hS.trans S2)
end
end
section
open PySem PySem.Spec PyProof.Rows L2
open RgCase (Bytes Name)
structure Cds where
 cClaim:Addr
 cRule:Addr
 cBoat:Addr
 cCase:Addr
 cProof:Addr
 cDesk:Addr
inductive Tag where
 | case | claims | nums | weights | wits | boats
 | claim (i:Nat) | words (i:Nat) | rules (i:Nat) | rule (i j:Nat)
 | boat (k:Nat) | pens (k:Nat) | reds (k:Nat) | pen (k j:Nat)
 deriving DecidableEq
structure Lay where
 pl:Tag→Addr
 dx:Tag→Addr
def Lay.put (L:Lay)(t:Tag)(a d:Addr):Lay:=⟨fun u=>if u=t then a else L.pl u,fun u=>if u=t then d else L.dx u⟩
theorem Lay.zuu {L:Lay}{t:Tag}{a d:Addr}:(L.put t a d).pl t=a∧(L.put t a d).dx t=d:=⟨if_pos rfl,if_pos rfl⟩
theorem Lay.put_ne {L:Lay}{t u:Tag}{a d:Addr}(h:u≠t):(L.put t a d).pl u=L.pl u∧(L.put t a d).dx u=L.dx u:=⟨if_neg h,if_neg h⟩
def dictOf (f:Nat→V)(ns:List Name):List (Key×V):=ns.zipIdx.map fun x=>(Sum.inr (toS x.1),f x.2)
theorem zl8 (f:Nat→V)(ns:List Name)(n:Name):dictOf f (ns++[n])=dictOf f ns++[(Sum.inr (toS n),f ns.length)]:=by
 unfold dictOf;rw [List.zipIdx_append,List.map_append];simp
theorem zhr (f:Nat→V)(ns:List Name):(dictOf f ns).length=ns.length:=by
 unfold dictOf;simp
theorem zr9 {f g:Nat→V}{ns:List Name}(h:∀ i,i<ns.length→f i=g i):dictOf f ns=dictOf g ns:=by
 unfold dictOf;refine List.map_congr_left fun x hx=>?_;have:=List.mem_zipIdx hx;rw [h x.2 (by omega)]
theorem zie (f:Nat→V)(n:Name):∀ ns:List Name,valV (dictOf f ns) (Sum.inr (toS n))=if n∈ns then some (f (ns.idxOf n)) else none:=by
 have key:∀ (ns:List Name) (k:Nat),valV (ns.zipIdx k |>.map fun x=>((Sum.inr (toS x.1):Key),f x.2)) (Sum.inr (toS n))=if n∈ns then some (f (k+ns.idxOf n)) else none:=by
  intro ns;induction ns with
  | nil=>intro k;rfl
  | cons m r ih=>
   intro k;have ih':=ih (k+1);unfold valV at ih' ⊢;rw [List.zipIdx_cons,List.map_cons,List.find?_cons];by_cases e:m=n
   ·subst e;simp
   ·have h1:decide ((Sum.inr (toS m):Key)=Sum.inr (toS n))=false:=decide_eq_false fun z=>e (zle (Sum.inr.inj z));simp only [h1];rw [ih',List.idxOf_cons,beq_eq_false_iff_ne.mpr e,cond_false];by_cases q:n∈r
    ·rw [if_pos q,if_pos (List.mem_cons_of_mem _ q),show k+1+r.idxOf n=k+(r.idxOf n+1) by omega]
    ·rw [if_neg q,if_neg (fun z=>q ((List.mem_cons.mp z).resolve_left fun y=>e y.symm))]
 intro ns;have:=key ns 0;rw [Nat.zero_add] at this;exact this
theorem zuv {f:Nat→V}{ns:List Name}{n:Name}(h:n∉ns):putK (dictOf f ns) (Sum.inr (toS n)) (f ns.length)=dictOf f (ns++[n]):=by
 rw [zl8];exact zil _ (by rw [zie,if_neg h])
def caseF (n:Nat)(cl nu we wi bo:Addr):List (Str×V):=[("lines",.int n),("claims",.ref cl),("claim_numbers",.ref nu),("weights",.ref we),("witness_numbers",.ref wi),("boats",.ref bo)]
def claimF (k:Nat)(w r:Addr):List (Str×V):=[("known",.int k),("words",.ref w),("rules",.ref r)]
def ruleF (r:RuleA):List (Str×V):=[("line_number",.int r.line),("made",.int r.made),("needed",.int r.need)]
def boatF (p r:Addr):List (Str×V):=[("penalties",.ref p),("redresses",.ref r)]
def wordsK (q:ClaimA):List (Key×V):=q.words.map fun x=>(Sum.inl (x.1:Int),V.int x.2)
def refs (g:Nat→Addr)(n:Nat):List V:=(List.range n).map fun i=>V.ref (g i)
theorem zll (g:Nat→Addr)(n:Nat):refs g (n+1)=refs g n++[V.ref (g n)]:=by
 unfold refs;rw [List.range_succ,List.map_append];rfl
theorem zci (g:Nat→Addr)(n:Nat):(refs g n).length=n:=by unfold refs;simp
theorem zd4 {g h:Nat→Addr}{n:Nat}(e:∀ i,i<n→g i=h i):refs g n=refs h n:=by
 unfold refs;exact List.map_congr_left fun i hi=>by rw [e i (List.mem_range.mp hi)]
theorem zk4 {g:Nat→Addr}{n i:Nat}(h:i<n):(refs g n)[i]? = some (V.ref (g i)):=by
 unfold refs;rw [List.getElem?_map,List.getElem?_range h];rfl
def obj (cd:Cds)(L:Lay)(A:Abs):Tag→Option HO
 | .case=>some (.ins cd.cCase (L.dx .case) (caseF A.lines (L.pl .claims) (L.pl .nums) (L.pl .weights) (L.pl .wits) (L.pl .boats)))
 | .claims=>some (.lst (refs (fun i=>L.pl (.claim i)) A.claims.length))
 | .nums=>some (.dK (dictOf (fun i=>.int i) A.nums))
 | .weights=>some (.lst (A.weights.map fun (w:Nat)=>V.int w))
 | .wits=>some (.dK (dictOf (fun i=>.int i) A.wits))
 | .boats=>some (.dK (dictOf (fun k=>.ref (L.pl (.boat k))) A.bnames))
 | .claim i=>A.claims[i]?.map fun q=>.ins cd.cClaim (L.dx (.claim i)) (claimF q.known (L.pl (.words i)) (L.pl (.rules i)))
 | .words i=>A.claims[i]?.map fun q=>.dK (wordsK q)
 | .rules i=>A.claims[i]?.map fun q=>.lst (refs (fun j=>L.pl (.rule i j)) q.rules.length)
 | .rule i j=>A.claims[i]?.bind fun q=>q.rules[j]?.map fun r=>.ins cd.cRule (L.dx (.rule i j)) (ruleF r)
 | .boat k=>A.boats[k]?.map fun _=>.ins cd.cBoat (L.dx (.boat k)) (boatF (L.pl (.pens k)) (L.pl (.reds k)))
 | .pens k=>A.boats[k]?.map fun q=>.lst (refs (fun j=>L.pl (.pen k j)) q.pens.length)
 | .reds k=>A.boats[k]?.map fun q=>.lst (q.reds.map fun (n:Nat)=>V.int n)
 | .pen k j=>A.boats[k]?.bind fun q=>q.pens[j]?.map fun x=>.tup [.int x.1,.int x.2]
structure Rep (cd:Cds)(H0 H:Hp)(L:Lay)(A:Abs):Prop where
 cells:∀ t o,obj cd L A t=some o→H (L.pl t)=some o
 inj:∀ t t' o o',obj cd L A t=some o→obj cd L A t'=some o'→L.pl t=L.pl t'→t=t'
 new:∀ t o,obj cd L A t=some o→H0 (L.pl t)=none
 same:Same H0 H
 bn:A.boats.length=A.bnames.length
 cn:A.claims.length≤A.nums.length
section
variable {cd:Cds}{H0 H H':Hp}{L L':Lay}{A A':Abs}
theorem Rep.sameR (R:Rep cd H0 H L A)(h:Same H H'):Rep cd H0 H' L A:=⟨fun t o e=>h _ _ (R.cells t o e),R.inj,R.new,R.same.trans h,R.bn,R.cn⟩
theorem Rep.side {p:Addr}{o:HO}(R:Rep cd H0 H L A)(hp:H p=none)(hs:Same H H')(ho:H' p=some o):Rep cd (upd H0 p o) H' L A:=
 ⟨fun t u e=>hs _ _ (R.cells t u e),R.inj,fun t u e=>by rw [zac (zag (R.cells t u e) hp)];exact R.new t u e,fun q u e=>by
  by_cases z:q=p
  ·subst z;rw [zaa] at e;cases e;exact ho
  ·rw [zac z] at e;exact hs _ _ (R.same _ _ e),R.bn,R.cn⟩
theorem Rep.set (R:Rep cd H0 H L A)(t:Tag){o o':HO}(ho:obj cd L A t=some o)(h':obj cd L A' t=some o')(hr:∀ u,u≠t→obj cd L A' u=obj cd L A u)(bn:A'.boats.length=A'.bnames.length)(cn:A'.claims.length≤A'.nums.length):Rep cd H0 (upd H (L.pl t) o') L A':=by
 have old:∀ u v,obj cd L A' u=some v→∃ w,obj cd L A u=some w:=fun u v e=>by
  by_cases z:u=t
  ·subst z;exact ⟨o,ho⟩
  ·rw [hr u z] at e;exact ⟨v,e⟩
 refine ⟨fun u v e=>?_,fun u u' v v' e e' q=>?_,fun u v e=>?_,fun q v e=>?_,bn,cn⟩
 ·by_cases z:u=t
  ·subst z;rw [zaa,←h',e]
  ·rw [zac (fun y=>z (R.inj u t v o (by rw [←hr u z];exact e) ho y)),R.cells u v (by rw [←hr u z];exact e)]
 ·obtain ⟨w,hw⟩:=old u v e;obtain ⟨w',hw'⟩:=old u' v' e';exact R.inj u u' w w' hw hw' q
 ·obtain ⟨w,hw⟩:=old u v e;exact R.new u w hw
 ·rw [zac (zag e (R.new t o ho))];exact R.same q v e
theorem Rep.upTo (R:Rep cd H0 H L A)(old:∀ t o,obj cd L A t=some o→L'.pl t=L.pl t)(cells:∀ t o,obj cd L' A' t=some o→H' (L'.pl t)=some o)(fresh:∀ t o,obj cd L' A' t=some o→obj cd L A t=none→H (L'.pl t)=none)(inj:∀ t t' o o',obj cd L' A' t=some o→obj cd L' A' t'=some o'→obj cd L A t=none→obj cd L A t'=none→L'.pl t=L'.pl t'→t=t')(same:Same H0 H')(bn:A'.boats.length=A'.bnames.length)(cn:A'.claims.length≤A'.nums.length):Rep cd H0 H' L' A':=by
 refine ⟨cells,fun t t' o o' e e' q=>?_,fun t o e=>?_,same,bn,cn⟩
 ·cases h:obj cd L A t with
  | none=>
   cases h':obj cd L A t' with
   | none=>exact inj t t' o o' e e' h h' q
   | some u'=>
    have h1:=fresh t o e h;rw [q,old t' u' h',R.cells t' u' h'] at h1;cases h1
  | some u=>
   cases h':obj cd L A t' with
   | none=>
    have h1:=fresh t' o' e' h';rw [←q,old t u h,R.cells t u h] at h1;cases h1
   | some u'=>
    rw [old t u h,old t' u' h'] at q;exact R.inj t t' u u' h h' q
 ·cases h:obj cd L A t with
  | none=>
   have h1:=fresh t o e h;cases h2:H0 (L'.pl t) with
   | none=>rfl
   | some v=>rw [R.same _ _ h2] at h1;cases h1
  | some u=>
   rw [old t u h];exact R.new t u h
theorem Rep.lines (R:Rep cd H0 H L A)(n:Nat):Rep cd H0 (upd H (L.pl .case) (.ins cd.cCase (L.dx .case) (caseF n (L.pl .claims) (L.pl .nums) (L.pl .weights) (L.pl .wits) (L.pl .boats)))) L {A with lines:=n}:=
 R.set .case rfl rfl (fun u hu=>by cases u <;> first | exact absurd rfl hu | rfl) R.bn R.cn
theorem Rep.num (R:Rep cd H0 H L A)(n:Name):Rep cd H0 (upd H (L.pl .nums) (.dK (dictOf (fun i=>.int i) (A.nums++[n])))) L {A with nums:=A.nums++[n]}:=
 R.set .nums rfl rfl (fun u hu=>by cases u <;> first | exact absurd rfl hu | rfl) R.bn (by rw [List.length_append];exact Nat.le_add_right_of_le R.cn)
theorem Rep.wit (R:Rep cd H0 H L A)(n:Name):Rep cd H0 (upd H (L.pl .wits) (.dK (dictOf (fun i=>.int i) (A.wits++[n])))) L {A with wits:=A.wits++[n]}:=
 R.set .wits rfl rfl (fun u hu=>by cases u <;> first | exact absurd rfl hu | rfl) R.bn R.cn
theorem Rep.weight (R:Rep cd H0 H L A)(k:Nat):Rep cd H0 (upd H (L.pl .weights) (.lst ((A.weights.map fun (w:Nat)=>V.int w)++[V.int k]))) L {A with weights:=A.weights++[k]}:=by
 refine R.set .weights rfl ?_ (fun u hu=>by cases u <;> first | exact absurd rfl hu | rfl) R.bn R.cn
 show some (HO.lst ((A.weights++[k]).map fun (w:Nat)=>V.int w))=_;rw [List.map_append];rfl
theorem za2 {α β:Type}{l:List α}{i j:Nat}{f:α→α}{g:α→β}(h:i=j→∀ q,g (f q)=g q):(l.modify i f)[j]?.map g=l[j]?.map g:=by
 rw [List.getElem?_modify];cases l[j]? with
 | none=>rfl
 | some q=>
  show some (g (if i=j then f q else q))=some (g q)
  by_cases e:i=j
  ·rw [if_pos e,h e]
  ·rw [if_neg e]
theorem zem {α β:Type}{l:List α}{i j:Nat}{f:α→α}{g:α→Option β}(h:i=j→∀ q,g (f q)=g q):(l.modify i f)[j]?.bind g=l[j]?.bind g:=by
 rw [List.getElem?_modify];cases l[j]? with
 | none=>rfl
 | some q=>
  show g (if i=j then f q else q)=g q
  by_cases e:i=j
  ·rw [if_pos e,h e]
  ·rw [if_neg e]
theorem zc4 {α:Type}{l:List α}{i:Nat}{f:α→α}{q:α}(h:l[i]? = some q):(l.modify i f)[i]? = some (f q):=by
 rw [List.getElem?_modify,h];simp
theorem Rep.known (R:Rep cd H0 H L A){i:Nat}{q:ClaimA}(hq:A.claims[i]? = some q)(k:Nat):
  Rep cd H0 (upd H (L.pl (.claim i)) (.ins cd.cClaim (L.dx (.claim i)) (claimF k (L.pl (.words i)) (L.pl (.rules i))))) L {A with claims:=A.claims.modify i fun q=>{q with known:=k}}:=by
 refine R.set (.claim i) (by show A.claims[i]?.map _=_;rw [hq];rfl) (by show (A.claims.modify i _)[i]?.map _=_;rw [zc4 hq];rfl) (fun u hu=>?_) R.bn (by rw [List.length_modify];exact R.cn)
 cases u with
 | claims=>show some (HO.lst (refs _ (A.claims.modify i _).length))=_;rw [List.length_modify];rfl
 | claim j=>exact za2 fun e=>absurd (congrArg Tag.claim e.symm) hu
 | words j=>exact za2 fun _ _=>rfl
 | rules j=>exact za2 fun _ _=>rfl
 | rule j k=>exact zem fun _ _=>rfl
 | _=>rfl
theorem Rep.word (R:Rep cd H0 H L A){i:Nat}{q:ClaimA}(hq:A.claims[i]? = some q)(x:Nat×Nat):
  Rep cd H0 (upd H (L.pl (.words i)) (.dK (wordsK q++[(Sum.inl (x.1:Int),V.int x.2)]))) L {A with claims:=A.claims.modify i fun q=>{q with words:=q.words++[x]}}:=by
 refine R.set (.words i) (by show A.claims[i]?.map _=_;rw [hq];rfl) (by show (A.claims.modify i _)[i]?.map _=_;rw [zc4 hq];simp [wordsK]) (fun u hu=>?_) R.bn (by rw [List.length_modify];exact R.cn)
 cases u with
 | claims=>show some (HO.lst (refs _ (A.claims.modify i _).length))=_;rw [List.length_modify];rfl
 | claim j=>exact za2 fun _ _=>rfl
 | words j=>exact za2 fun e=>absurd (congrArg Tag.words e.symm) hu
 | rules j=>exact za2 fun _ _=>rfl
 | rule j k=>exact zem fun _ _=>rfl
 | _=>rfl
theorem Rep.red (R:Rep cd H0 H L A){k:Nat}{q:BoatA}(hq:A.boats[k]? = some q)(n:Nat):
  Rep cd H0 (upd H (L.pl (.reds k)) (.lst ((q.reds.map fun (n:Nat)=>V.int n)++[V.int n]))) L {A with boats:=A.boats.modify k fun q=>{q with reds:=q.reds++[n]}}:=by
 refine R.set (.reds k) (by show A.boats[k]?.map _=_;rw [hq];rfl) (by show (A.boats.modify k _)[k]?.map _=_;rw [zc4 hq];simp) (fun u hu=>?_) (by rw [List.length_modify];exact R.bn) R.cn
 cases u with
 | boat j=>exact za2 fun _ _=>rfl
 | pens j=>exact za2 fun _ _=>rfl
 | reds j=>exact za2 fun e=>absurd (congrArg Tag.reds e.symm) hu
 | pen j m=>exact zem fun _ _=>rfl
 | _=>rfl
theorem Rep.grow {H2:Hp}(N:Tag→Prop)(t0:Tag){o0 o1:HO}(R:Rep cd H0 H L A)(hs:Same H H2)(hL:∀ u,¬ N u→L'.pl u=L.pl u)(ho:obj cd L A t0=some o0)(h':obj cd L' A' t0=some o1)(n0:¬ N t0)(hr:∀ u,¬ N u→u≠t0→obj cd L' A' u=obj cd L A u)(hN0:∀ u,N u→obj cd L A u=none)(hN:∀ u o,N u→obj cd L' A' u=some o→H (L'.pl u)=none∧H2 (L'.pl u)=some o)(hinj:∀ u u' o o',N u→N u'→obj cd L' A' u=some o→obj cd L' A' u'=some o'→L'.pl u=L'.pl u'→u=u')(bn:A'.boats.length=A'.bnames.length)(cn:A'.claims.length≤A'.nums.length):
  Rep cd H0 (upd H2 (L.pl t0) o1) L' A':=by
 have h0:=R.cells t0 o0 ho;refine R.upTo (fun t o e=>?_) (fun t o e=>?_) (fun t o e en=>?_) (fun t t' o o' e e' en en' q=>?_) (fun q o e=>?_) bn cn
 ·refine hL t fun z=>?_;rw [hN0 t z] at e;cases e
 ·by_cases z:N t
  ·obtain ⟨h1,h2⟩:=hN t o z e;rw [zac (fun y=>by rw [y,h0] at h1;cases h1)]
   exact h2
  ·rw [hL t z];by_cases y:t=t0
   ·subst y;rw [zaa,←h',e]
   ·have e2:obj cd L A t=some o:=by rw [←hr t z y];exact e
    rw [zac (fun x=>y (R.inj t t0 o o0 e2 ho x))];exact hs _ _ (R.cells t o e2)
 ·have z:N t:=Classical.byContradiction fun z=>by
   by_cases y:t=t0
   ·subst y;rw [ho] at en;cases en
   ·rw [hr t z y,en] at e;cases e
  exact (hN t o z e).1
 ·have hz:∀ t o,obj cd L' A' t=some o→obj cd L A t=none→N t:=fun t o e en=>Classical.byContradiction fun z=>by
   by_cases y:t=t0
   ·subst y;rw [ho] at en;cases en
   ·rw [hr t z y,en] at e;cases e
  exact hinj t t' o o' (hz t o e en) (hz t' o' e' en') e e' q
 ·rw [zac (zag e (R.new t0 o0 ho))];exact hs _ _ (R.same q o e)
theorem zdk {α:Type}{l:List α}{x:α}{i:Nat}(h:i≠l.length):(l++[x])[i]? = l[i]?:=by
 rw [List.getElem?_append];by_cases q:i<l.length
 ·rw [if_pos q]
 ·rw [if_neg q,List.getElem?_eq_none (by simp;omega),List.getElem?_eq_none (by omega)]
theorem zd9 {α:Type}{l:List α}{x:α}:(l++[x])[l.length]? = some x:=by simp
theorem Rep.claim {H2:Hp}{p d wd rl:Addr}(R:Rep cd H0 H L A)(hs:Same H H2)(np:H p=none)(nw:H wd=none)(nr:H rl=none)(hp:H2 p=some (.ins cd.cClaim d (claimF 0 wd rl)))(hw:H2 wd=some (.dK []))(hr:H2 rl=some (.lst []))(hc:A.claims.length<A.nums.length):
  Rep cd H0 (upd H2 (L.pl .claims) (.lst (refs (fun i=>L.pl (.claim i)) A.claims.length++[.ref p]))) (((L.put (.claim A.claims.length) p d).put (.words A.claims.length) wd 0).put (.rules A.claims.length) rl 0) {A with claims:=A.claims++[⟨0,[],[]⟩]}:=by
 generalize hL':((L.put (.claim A.claims.length) p d).put (.words A.claims.length) wd 0).put (.rules A.claims.length) rl 0=L'
 have e1:L'.pl (.claim A.claims.length)=p∧L'.dx (.claim A.claims.length)=d:=by subst hL';simp [Lay.put]
 have e2:L'.pl (.words A.claims.length)=wd:=by subst hL';simp [Lay.put]
 have e3:L'.pl (.rules A.claims.length)=rl:=by subst hL';simp [Lay.put]
 have e4:∀ u,u≠.claim A.claims.length→u≠.words A.claims.length→u≠.rules A.claims.length→L'.pl u=L.pl u∧L'.dx u=L.dx u:=by
  intro u h1 h2 h3;subst hL';simp [Lay.put,h1,h2,h3]
 have eL:∀ u,¬ (u=.claim A.claims.length∨u=.words A.claims.length∨u=.rules A.claims.length)→L'.pl u=L.pl u∧L'.dx u=L.dx u:=fun u h=>e4 u (fun z=>h (.inl z)) (fun z=>h (.inr (.inl z))) (fun z=>h (.inr (.inr z)));have en:A.claims[A.claims.length]? = none:=List.getElem?_eq_none (Nat.le_refl _);refine R.grow (fun u=>u=.claim A.claims.length∨u=.words A.claims.length∨u=.rules A.claims.length) .claims hs (fun u h=>(eL u h).1) rfl ?_ (by simp) (fun u h hu=>?_) (fun u h=>?_) (fun u o h e=>?_) (fun u u' o o' h h' e e' q=>?_) R.bn
  (by show (A.claims++[_]).length≤A.nums.length;rw [List.length_append];exact hc)
 ·show some (HO.lst (refs (fun i=>L'.pl (.claim i)) (A.claims++[_]).length))=_;rw [List.length_append];show some (HO.lst (refs (fun i=>L'.pl (.claim i)) (A.claims.length+1)))=_;rw [zll,e1.1,zd4 (h:=fun i=>L.pl (.claim i)) fun i hi=>(e4 (.claim i) (by intro z;cases z;omega) (by simp) (by simp)).1]
 ·cases u with
  | claim i=>
   have hi:i≠A.claims.length:=fun z=>h (.inl (by rw [z]))
   show (A.claims++[_])[i]?.map _=A.claims[i]?.map _;rw [zdk hi,(eL _ h).2,(e4 (.words i) (by simp) (by intro z;cases z;exact hi rfl) (by simp)).1,(e4 (.rules i) (by simp) (by simp) (by intro z;cases z;exact hi rfl)).1]
  | words i=>
   have hi:i≠A.claims.length:=fun z=>h (.inr (.inl (by rw [z])))
   show (A.claims++[_])[i]?.map _=A.claims[i]?.map _;rw [zdk hi]
  | rules i=>
   have hi:i≠A.claims.length:=fun z=>h (.inr (.inr (by rw [z])))
   show (A.claims++[_])[i]?.map _=A.claims[i]?.map _;rw [zdk hi];have ej:(fun j=>L'.pl (.rule i j))=fun j=>L.pl (.rule i j):=by funext j;exact (e4 (.rule i j) (by simp) (by simp) (by simp)).1
   rw [ej]
  | rule i j=>
   show (A.claims++[_])[i]?.bind _=A.claims[i]?.bind _;rw [(eL _ h).2];by_cases hi:i=A.claims.length
   ·subst hi;rw [zd9,en];rfl
   ·rw [zdk hi]
  | case=>
   show some (HO.ins _ (L'.dx .case) (caseF _ (L'.pl .claims) (L'.pl .nums) (L'.pl .weights) (L'.pl .wits) (L'.pl .boats)))=_;rw [(e4 .case (by simp) (by simp) (by simp)).2,(e4 .claims (by simp) (by simp) (by simp)).1,(e4 .nums (by simp) (by simp) (by simp)).1,(e4 .weights (by simp) (by simp) (by simp)).1,(e4 .wits (by simp) (by simp) (by simp)).1,(e4 .boats (by simp) (by simp) (by simp)).1]
   rfl
  | claims=>exact absurd rfl hu
  | nums=>rfl
  | weights=>rfl
  | wits=>rfl
  | boats=>
   have ej:(fun k=>V.ref (L'.pl (.boat k)))=fun k=>V.ref (L.pl (.boat k)):=by funext k;rw [(e4 (.boat k) (by simp) (by simp) (by simp)).1]
   show some (HO.dK (dictOf (fun k=>V.ref (L'.pl (.boat k))) A.bnames))=_;rw [ej];rfl
  | boat k=>
   show A.boats[k]?.map _=A.boats[k]?.map _;rw [(eL _ h).2,(e4 (.pens k) (by simp) (by simp) (by simp)).1,(e4 (.reds k) (by simp) (by simp) (by simp)).1]
  | pens k=>
   have ej:(fun j=>L'.pl (.pen k j))=fun j=>L.pl (.pen k j):=by funext j;exact (e4 (.pen k j) (by simp) (by simp) (by simp)).1
   show A.boats[k]?.map _=A.boats[k]?.map _;rw [ej]
  | reds k=>rfl
  | pen k j=>rfl
 ·rcases h with rfl | rfl | rfl
  ·show A.claims[A.claims.length]?.map _=none;rw [en];rfl
  ·show A.claims[A.claims.length]?.map _=none;rw [en];rfl
  ·show A.claims[A.claims.length]?.map _=none;rw [en];rfl
 ·rcases h with rfl | rfl | rfl
  ·rw [e1.1];refine ⟨np,?_⟩;have e':(A.claims++[(⟨0,[],[]⟩:ClaimA)])[A.claims.length]?.map (fun q=>HO.ins cd.cClaim (L'.dx (.claim A.claims.length)) (claimF q.known (L'.pl (.words A.claims.length)) (L'.pl (.rules A.claims.length))))=some o:=e;rw [zd9,e1.2,e2,e3] at e';rw [hp];exact e'
  ·rw [e2];refine ⟨nw,?_⟩;have e':(A.claims++[(⟨0,[],[]⟩:ClaimA)])[A.claims.length]?.map (fun q=>HO.dK (wordsK q))=some o:=e;rw [zd9] at e';rw [hw];exact e'
  ·rw [e3];refine ⟨nr,?_⟩;have e':(A.claims++[(⟨0,[],[]⟩:ClaimA)])[A.claims.length]?.map (fun q=>HO.lst (refs (fun j=>L'.pl (.rule A.claims.length j)) q.rules.length))=some o:=e;rw [zd9] at e';rw [hr];exact e'
 ·have d1:p≠wd:=zdd hp hw (by intro z;cases z)
  have d2:p≠rl:=zdd hp hr (by intro z;cases z)
  have d3:wd≠rl:=zdd hw hr (by intro z;cases z)
  rcases h with rfl | rfl | rfl <;> rcases h' with rfl | rfl | rfl <;> first | rfl | (rw [e1.1,e2] at q;exact absurd q d1) | (rw [e1.1,e3] at q;exact absurd q d2) | (rw [e2,e1.1] at q;exact absurd q.symm d1) | (rw [e3,e1.1] at q;exact absurd q.symm d2) | (rw [e2,e3] at q;exact absurd q d3) | (rw [e3,e2] at q;exact absurd q.symm d3)
theorem Rep.rule {H2:Hp}{p d:Addr}{i:Nat}{q:ClaimA}{r:RuleA}(R:Rep cd H0 H L A)(hs:Same H H2)(np:H p=none)(hp:H2 p=some (.ins cd.cRule d (ruleF r)))(hq:A.claims[i]? = some q):
  Rep cd H0 (upd H2 (L.pl (.rules i)) (.lst (refs (fun j=>L.pl (.rule i j)) q.rules.length++[.ref p]))) (L.put (.rule i q.rules.length) p d) {A with claims:=A.claims.modify i fun q=>{q with rules:=q.rules++[r]}}:=by
 generalize hL':L.put (.rule i q.rules.length) p d=L'
 have e1:L'.pl (.rule i q.rules.length)=p∧L'.dx (.rule i q.rules.length)=d:=by subst hL';exact Lay.zuu
 have e4:∀ u,u≠.rule i q.rules.length→L'.pl u=L.pl u∧L'.dx u=L.dx u:=by
  intro u h;subst hL';exact Lay.put_ne h
 refine R.grow (fun u=>u=.rule i q.rules.length) (.rules i) hs (fun u h=>(e4 u h).1) (by show A.claims[i]?.map _=_;rw [hq];rfl) ?_ (by simp) (fun u h hu=>?_) (fun u h=>?_) (fun u o h e=>?_) (fun u u' o o' h h' e e' q=>h.trans h'.symm) R.bn
  (by show (A.claims.modify i _).length≤A.nums.length;rw [List.length_modify];exact R.cn)
 ·show (A.claims.modify i _)[i]?.map _=_;rw [zc4 hq];show some (HO.lst (refs (fun j=>L'.pl (.rule i j)) (q.rules++[r]).length))=_;rw [List.length_append];show some (HO.lst (refs (fun j=>L'.pl (.rule i j)) (q.rules.length+1)))=_;rw [zll,e1.1,zd4 (h:=fun j=>L.pl (.rule i j)) fun j hj=>(e4 (.rule i j) (by intro z;cases z;omega)).1]
 ·cases u with
  | claims=>
   show some (HO.lst (refs (fun j=>L'.pl (.claim j)) (A.claims.modify i _).length))=_;rw [List.length_modify,zd4 (h:=fun j=>L.pl (.claim j)) fun j _=>(e4 (.claim j) (by simp)).1]
   rfl
  | claim j=>
   show (A.claims.modify i _)[j]?.map _=A.claims[j]?.map _;rw [(e4 _ h).2,(e4 (.words j) (by simp)).1,(e4 (.rules j) (by simp)).1]
   exact za2 fun _ _=>rfl
  | words j=>exact za2 fun _ _=>rfl
  | rules j=>
   have ej:(fun m=>L'.pl (.rule j m))=fun m=>L.pl (.rule j m):=by
    funext m
    exact (e4 (.rule j m) (by intro z;cases z;exact hu rfl)).1
   show (A.claims.modify i _)[j]?.map _=A.claims[j]?.map _;rw [ej];exact za2 fun e=>absurd (congrArg Tag.rules e.symm) hu
  | rule j m=>
   show (A.claims.modify i _)[j]?.bind _=A.claims[j]?.bind _;rw [(e4 _ h).2];by_cases e:i=j
   ·subst e;have hm:m≠q.rules.length:=fun z=>h (by rw [z])
    rw [zc4 hq,hq];show (q.rules++[r])[m]?.map _=q.rules[m]?.map _;rw [zdk hm]
   ·exact zem fun z=>absurd z e
  | case=>
   show some (HO.ins _ (L'.dx .case) (caseF _ (L'.pl .claims) (L'.pl .nums) (L'.pl .weights) (L'.pl .wits) (L'.pl .boats)))=_;rw [(e4 .case (by simp)).2,(e4 .claims (by simp)).1,(e4 .nums (by simp)).1,(e4 .weights (by simp)).1,(e4 .wits (by simp)).1,(e4 .boats (by simp)).1]
   rfl
  | nums=>rfl
  | weights=>rfl
  | wits=>rfl
  | boats=>
   have ej:(fun k=>V.ref (L'.pl (.boat k)))=fun k=>V.ref (L.pl (.boat k)):=by funext k;rw [(e4 (.boat k) (by simp)).1]
   show some (HO.dK (dictOf (fun k=>V.ref (L'.pl (.boat k))) A.bnames))=_;rw [ej];rfl
  | boat k=>
   show A.boats[k]?.map _=A.boats[k]?.map _;rw [(e4 _ h).2,(e4 (.pens k) (by simp)).1,(e4 (.reds k) (by simp)).1]
  | pens k=>
   have ej:(fun j=>L'.pl (.pen k j))=fun j=>L.pl (.pen k j):=by funext j;exact (e4 (.pen k j) (by simp)).1
   show A.boats[k]?.map _=A.boats[k]?.map _;rw [ej]
  | reds k=>rfl
  | pen k j=>rfl
 ·subst h;show A.claims[i]?.bind _=none;rw [hq];show q.rules[q.rules.length]?.map _=none;rw [List.getElem?_eq_none (Nat.le_refl _)];rfl
 ·subst h;rw [e1.1];refine ⟨np,?_⟩;have e':(A.claims.modify i fun q=>{q with rules:=q.rules++[r]})[i]?.bind (fun q'=>q'.rules[q.rules.length]?.map fun r=>HO.ins cd.cRule (L'.dx (.rule i q.rules.length)) (ruleF r))=some o:=e;rw [zc4 hq,e1.2] at e';have e2:(q.rules++[r])[q.rules.length]?.map (fun r=>HO.ins cd.cRule d (ruleF r))=some o:=e';rw [zd9] at e2;rw [hp];exact e2
theorem Rep.pen {H2:Hp}{p:Addr}{k:Nat}{q:BoatA}{x:Nat×Nat}(R:Rep cd H0 H L A)(hs:Same H H2)(np:H p=none)(hp:H2 p=some (.tup [.int x.1,.int x.2]))(hq:A.boats[k]? = some q):
  Rep cd H0 (upd H2 (L.pl (.pens k)) (.lst (refs (fun j=>L.pl (.pen k j)) q.pens.length++[.ref p]))) (L.put (.pen k q.pens.length) p 0) {A with boats:=A.boats.modify k fun q=>{q with pens:=q.pens++[x]}}:=by
 generalize hL':L.put (.pen k q.pens.length) p 0=L'
 have e1:L'.pl (.pen k q.pens.length)=p:=by subst hL';exact Lay.zuu.1
 have e4:∀ u,u≠.pen k q.pens.length→L'.pl u=L.pl u∧L'.dx u=L.dx u:=by
  intro u h;subst hL';exact Lay.put_ne h
 refine R.grow (fun u=>u=.pen k q.pens.length) (.pens k) hs (fun u h=>(e4 u h).1) (by show A.boats[k]?.map _=_;rw [hq];rfl) ?_ (by simp) (fun u h hu=>?_) (fun u h=>?_) (fun u o h e=>?_) (fun u u' o o' h h' e e' q=>h.trans h'.symm)
  (by show (A.boats.modify k _).length=A.bnames.length;rw [List.length_modify];exact R.bn) R.cn
 ·show (A.boats.modify k _)[k]?.map _=_;rw [zc4 hq];show some (HO.lst (refs (fun j=>L'.pl (.pen k j)) (q.pens++[x]).length))=_;rw [List.length_append];show some (HO.lst (refs (fun j=>L'.pl (.pen k j)) (q.pens.length+1)))=_;rw [zll,e1,zd4 (h:=fun j=>L.pl (.pen k j)) fun j hj=>(e4 (.pen k j) (by intro z;cases z;omega)).1]
 ·cases u with
  | claims=>
   show some (HO.lst (refs (fun j=>L'.pl (.claim j)) A.claims.length))=_;rw [zd4 (h:=fun j=>L.pl (.claim j)) fun j _=>(e4 (.claim j) (by simp)).1]
   rfl
  | claim j=>
   show A.claims[j]?.map _=A.claims[j]?.map _;rw [(e4 _ h).2,(e4 (.words j) (by simp)).1,(e4 (.rules j) (by simp)).1]
  | words j=>rfl
  | rules j=>
   have ej:(fun m=>L'.pl (.rule j m))=fun m=>L.pl (.rule j m):=by funext m;exact (e4 (.rule j m) (by simp)).1
   show A.claims[j]?.map _=A.claims[j]?.map _;rw [ej]
  | rule j m=>
   show A.claims[j]?.bind _=A.claims[j]?.bind _;rw [(e4 _ h).2]
  | case=>
   show some (HO.ins _ (L'.dx .case) (caseF _ (L'.pl .claims) (L'.pl .nums) (L'.pl .weights) (L'.pl .wits) (L'.pl .boats)))=_;rw [(e4 .case (by simp)).2,(e4 .claims (by simp)).1,(e4 .nums (by simp)).1,(e4 .weights (by simp)).1,(e4 .wits (by simp)).1,(e4 .boats (by simp)).1]
   rfl
  | nums=>rfl
  | weights=>rfl
  | wits=>rfl
  | boats=>
   have ej:(fun k=>V.ref (L'.pl (.boat k)))=fun k=>V.ref (L.pl (.boat k)):=by funext k;rw [(e4 (.boat k) (by simp)).1]
   show some (HO.dK (dictOf (fun k=>V.ref (L'.pl (.boat k))) A.bnames))=_;rw [ej];rfl
  | boat j=>
   show (A.boats.modify k _)[j]?.map _=A.boats[j]?.map _;rw [(e4 _ h).2,(e4 (.pens j) (by simp)).1,(e4 (.reds j) (by simp)).1]
   exact za2 fun _ _=>rfl
  | pens j=>
   have ej:(fun m=>L'.pl (.pen j m))=fun m=>L.pl (.pen j m):=by
    funext m
    exact (e4 (.pen j m) (by intro z;cases z;exact hu rfl)).1
   show (A.boats.modify k _)[j]?.map _=A.boats[j]?.map _;rw [ej];exact za2 fun e=>absurd (congrArg Tag.pens e.symm) hu
  | reds j=>exact za2 fun _ _=>rfl
  | pen j m=>
   show (A.boats.modify k _)[j]?.bind _=A.boats[j]?.bind _;by_cases e:k=j
   ·subst e;have hm:m≠q.pens.length:=fun z=>h (by rw [z])
    rw [zc4 hq,hq];show (q.pens++[x])[m]?.map _=q.pens[m]?.map _;rw [zdk hm]
   ·exact zem fun z=>absurd z e
 ·subst h;show A.boats[k]?.bind _=none;rw [hq];show q.pens[q.pens.length]?.map _=none;rw [List.getElem?_eq_none (Nat.le_refl _)];rfl
 ·subst h;rw [e1];refine ⟨np,?_⟩;have e':(A.boats.modify k fun q=>{q with pens:=q.pens++[x]})[k]?.bind (fun q'=>q'.pens[q.pens.length]?.map fun x=>HO.tup [.int x.1,.int x.2])=some o:=e;rw [zc4 hq] at e';have e2:(q.pens++[x])[q.pens.length]?.map (fun x=>HO.tup [.int x.1,.int x.2])=some o:=e';rw [zd9] at e2;rw [hp];exact e2
theorem Rep.boat {H2:Hp}{p d pn rd:Addr}(R:Rep cd H0 H L A)(b:Name)(hs:Same H H2)(np:H p=none)(nw:H pn=none)(nr:H rd=none)(dn:pn≠rd)(hp:H2 p=some (.ins cd.cBoat d (boatF pn rd)))(hw:H2 pn=some (.lst []))(hr:H2 rd=some (.lst [])):
  Rep cd H0 (upd H2 (L.pl .boats) (.dK (dictOf (fun k=>.ref (L.pl (.boat k))) A.bnames++[(Sum.inr (toS b),.ref p)]))) (((L.put (.boat A.boats.length) p d).put (.pens A.boats.length) pn 0).put (.reds A.boats.length) rd 0) {A with bnames:=A.bnames++[b],boats:=A.boats++[⟨[],[]⟩]}:=by
 generalize hL':((L.put (.boat A.boats.length) p d).put (.pens A.boats.length) pn 0).put (.reds A.boats.length) rd 0=L'
 have e1:L'.pl (.boat A.boats.length)=p∧L'.dx (.boat A.boats.length)=d:=by subst hL';simp [Lay.put]
 have e2:L'.pl (.pens A.boats.length)=pn:=by subst hL';simp [Lay.put]
 have e3:L'.pl (.reds A.boats.length)=rd:=by subst hL';simp [Lay.put]
 have e4:∀ u,u≠.boat A.boats.length→u≠.pens A.boats.length→u≠.reds A.boats.length→L'.pl u=L.pl u∧L'.dx u=L.dx u:=by
  intro u h1 h2 h3;subst hL';simp [Lay.put,h1,h2,h3]
 have eL:∀ u,¬ (u=.boat A.boats.length∨u=.pens A.boats.length∨u=.reds A.boats.length)→L'.pl u=L.pl u∧L'.dx u=L.dx u:=fun u h=>e4 u (fun z=>h (.inl z)) (fun z=>h (.inr (.inl z))) (fun z=>h (.inr (.inr z)));have en:A.boats[A.boats.length]? = none:=List.getElem?_eq_none (Nat.le_refl _);refine R.grow (fun u=>u=.boat A.boats.length∨u=.pens A.boats.length∨u=.reds A.boats.length) .boats hs (fun u h=>(eL u h).1) rfl ?_ (by simp) (fun u h hu=>?_) (fun u h=>?_) (fun u o h e=>?_) (fun u u' o o' h h' e e' q=>?_)
  (by show (A.boats++[_]).length=(A.bnames++[b]).length;rw [List.length_append,List.length_append,R.bn];rfl) R.cn
 ·show some (HO.dK (dictOf (fun k=>V.ref (L'.pl (.boat k))) (A.bnames++[b])))=_;rw [zl8,←R.bn,e1.1,zr9 (g:=fun k=>V.ref (L.pl (.boat k))) fun i hi=>?_];rw [(e4 (.boat i) (by intro z;cases z;rw [R.bn] at hi;omega) (by simp) (by simp)).1]
 ·cases u with
  | boat i=>
   have hi:i≠A.boats.length:=fun z=>h (.inl (by rw [z]))
   show (A.boats++[_])[i]?.map _=A.boats[i]?.map _;rw [zdk hi,(eL _ h).2,(e4 (.pens i) (by simp) (by intro z;cases z;exact hi rfl) (by simp)).1,(e4 (.reds i) (by simp) (by simp) (by intro z;cases z;exact hi rfl)).1]
  | reds i=>
   have hi:i≠A.boats.length:=fun z=>h (.inr (.inr (by rw [z])))
   show (A.boats++[_])[i]?.map _=A.boats[i]?.map _;rw [zdk hi]
  | pens i=>
   have hi:i≠A.boats.length:=fun z=>h (.inr (.inl (by rw [z])))
   show (A.boats++[_])[i]?.map _=A.boats[i]?.map _;rw [zdk hi];have ej:(fun j=>L'.pl (.pen i j))=fun j=>L.pl (.pen i j):=by funext j;exact (e4 (.pen i j) (by simp) (by simp) (by simp)).1
   rw [ej]
  | pen i j=>
   show (A.boats++[_])[i]?.bind _=A.boats[i]?.bind _;by_cases hi:i=A.boats.length
   ·subst hi;rw [zd9,en];rfl
   ·rw [zdk hi]
  | case=>
   show some (HO.ins _ (L'.dx .case) (caseF _ (L'.pl .claims) (L'.pl .nums) (L'.pl .weights) (L'.pl .wits) (L'.pl .boats)))=_;rw [(e4 .case (by simp) (by simp) (by simp)).2,(e4 .claims (by simp) (by simp) (by simp)).1,(e4 .nums (by simp) (by simp) (by simp)).1,(e4 .weights (by simp) (by simp) (by simp)).1,(e4 .wits (by simp) (by simp) (by simp)).1,(e4 .boats (by simp) (by simp) (by simp)).1]
   rfl
  | claims=>
   show some (HO.lst (refs (fun j=>L'.pl (.claim j)) A.claims.length))=_;rw [zd4 (h:=fun j=>L.pl (.claim j)) fun j _=>(e4 (.claim j) (by simp) (by simp) (by simp)).1]
   rfl
  | nums=>rfl
  | weights=>rfl
  | wits=>rfl
  | boats=>exact absurd rfl hu
  | claim j=>
   show A.claims[j]?.map _=A.claims[j]?.map _;rw [(eL _ h).2,(e4 (.words j) (by simp) (by simp) (by simp)).1,(e4 (.rules j) (by simp) (by simp) (by simp)).1]
  | words j=>rfl
  | rules j=>
   have ej:(fun m=>L'.pl (.rule j m))=fun m=>L.pl (.rule j m):=by funext m;exact (e4 (.rule j m) (by simp) (by simp) (by simp)).1
   show A.claims[j]?.map _=A.claims[j]?.map _;rw [ej]
  | rule j m=>
   show A.claims[j]?.bind _=A.claims[j]?.bind _;rw [(eL _ h).2]
 ·rcases h with rfl | rfl | rfl
  ·show A.boats[A.boats.length]?.map _=none;rw [en];rfl
  ·show A.boats[A.boats.length]?.map _=none;rw [en];rfl
  ·show A.boats[A.boats.length]?.map _=none;rw [en];rfl
 ·rcases h with rfl | rfl | rfl
  ·rw [e1.1];refine ⟨np,?_⟩;have e':(A.boats++[(⟨[],[]⟩:BoatA)])[A.boats.length]?.map (fun _=>HO.ins cd.cBoat (L'.dx (.boat A.boats.length)) (boatF (L'.pl (.pens A.boats.length)) (L'.pl (.reds A.boats.length))))=some o:=e;rw [zd9,e1.2,e2,e3] at e';rw [hp];exact e'
  ·rw [e2];refine ⟨nw,?_⟩;have e':(A.boats++[(⟨[],[]⟩:BoatA)])[A.boats.length]?.map (fun q=>HO.lst (refs (fun j=>L'.pl (.pen A.boats.length j)) q.pens.length))=some o:=e;rw [zd9] at e';rw [hw];exact e'
  ·rw [e3];refine ⟨nr,?_⟩;have e':(A.boats++[(⟨[],[]⟩:BoatA)])[A.boats.length]?.map (fun q=>HO.lst (q.reds.map fun (n:Nat)=>V.int n))=some o:=e;rw [zd9] at e';rw [hr];exact e'
 ·have d1:p≠pn:=zdd hp hw (by intro z;cases z)
  have d2:p≠rd:=zdd hp hr (by intro z;cases z)
  rcases h with rfl | rfl | rfl <;> rcases h' with rfl | rfl | rfl <;> first | rfl | (rw [e1.1,e2] at q;exact absurd q d1) | (rw [e1.1,e3] at q;exact absurd q d2) | (rw [e2,e1.1] at q;exact absurd q.symm d1) | (rw [e3,e1.1] at q;exact absurd q.symm d2) | (rw [e2,e3] at q;exact absurd q dn) | (rw [e3,e2] at q;exact absurd q.symm dn)
end
end
open PySem PySem.Spec PyProof.Rows L2
local macro_rules | `(tactic| walk_at "rd2")=>`(tactic| simp only [tSeq,tDIn,tDNotIn,tDInO,tDSetd,tMaxD,tMeth,rIn,sFldAug,rAdd,rCat,rExtend,rPop,  tIfS,tOr,tAnd,tNot,tTest,tB,tOp,tVar,tC,tRet,tRetN,tNext,tDrop,tCB,tCall,tMake,tCons,tNil,tAsg,tUn,rU,tIf,tAndV,tOrV,tNotV,tM0,tM1,tTab,tLst,tTup,tFld,sFld,gName,tAug,ipI,gTup,gCons,gNil,tDNewK,tDGet1,tDGet2,tDGet,tYes,sDPut,tSl,tPart,tNoPart,rSlL,tBM,tBM0,rAppend,rIxL,rIxT,rI0,rI,rEq,rNe,L2.start,List.map,List.length,List.replicate,List.append,List.cons_append,List.nil_append,List.append_nil,List.set,List.getElem?_cons_zero,List.getElem?_cons_succ,Option.some.injEq,exists_eq_left',exists_eq_left,exists_eq_right,V.int.injEq,V.bl.injEq,V.str.injEq,V.ref.injEq,List.cons.injEq,and_true,true_and,exists_and_left,and_assoc,cxK,lenS,scalSS,scalII,decide_eq_true_eq,if_true,Bool.not_eq_true',decide_eq_false_iff_not])
section
open PySem PySem.Spec PyProof.Rows L2
open RgCase (Bytes ascii nameOk claimName cutAt Line Cond Name Case)
structure TxtR (mg:Str→Option Value):Prop where
 g_PROVED:GInt mg "PROVED" 1
 g_REFUTED:GInt mg "REFUTED" 2
 g_OPEN:GInt mg "OPEN" 3
 g_BY_SIGHT:GInt mg "BY_SIGHT" 1
 g_BY_RULES:GInt mg "BY_RULES" 2
 g_BY_WITNESSES:GInt mg "BY_WITNESSES" 3
 g_MOST_CLAIMS:GInt mg "MOST_CLAIMS" 64
 g_MOST_WITNESSES:GInt mg "MOST_WITNESSES" 8
 g_MOST_LINES:GInt mg "MOST_LINES" 512
 g_NOTHING_WRONG:GInt mg "NOTHING_WRONG" 0
 g_NOT_FORMED:GInt mg "NOT_FORMED" 1
 g_TOO_MUCH:GInt mg "TOO_MUCH" 2
 g_CANNOT_STAND:GInt mg "CANNOT_STAND" 3
 g_CLASHES:GInt mg "CLASHES" 4
 g_TAKE:GInt mg "TAKE" 0
 g_MORE:GInt mg "MORE" 1
 g_TEXT:GInt mg "TEXT" 2
 g_SIZES:GInt mg "SIZES" 3
 g_CLAIM:GInt mg "CLAIM" 4
 g_RULES:GInt mg "RULES" 5
 g_BOAT:GInt mg "BOAT" 6
 g_WITNESS:GInt mg "WITNESS" 7
 g_TURN:GInt mg "TURN" 8
 g_DONE:GInt mg "DONE" 0
 g_TOO_LONG:GInt mg "TOO_LONG" (-2)
 g_NONE_TURNS:GInt mg "NONE_TURNS" (-3)
 g_NO_SUCH:GInt mg "NO_SUCH" (-4)
 g_FAULTY:GInt mg "FAULTY" (-6)
 g_WRONG_BITS_OR_NAME:GInt mg "WRONG_BITS_OR_NAME" (-8)
 g_MOST_BYTES:GInt mg "MOST_BYTES" 65536
 b_len:mg "len"=none
 b_ord:mg "ord"=none
 b_max:mg "max"=none
 b_any:mg "any"=none
 b_sorted:mg "sorted"=none
 b_range:mg "range"=none
 b_list:mg "list"=none
 b_enumerate:mg "enumerate"=none
structure ClsClaim (K:PySem.W.Frag)(C:Addr):Prop where
 cl:Cls K C
 n1:NoAttr K C "known"
 n2:NoAttr K C "words"
 n3:NoAttr K C "rules"
structure ClsRule (K:PySem.W.Frag)(C:Addr):Prop where
 cl:Cls K C
 n1:NoAttr K C "line_number"
 n2:NoAttr K C "made"
 n3:NoAttr K C "needed"
structure ClsBoat (K:PySem.W.Frag)(C:Addr):Prop where
 cl:Cls K C
 n1:NoAttr K C "penalties"
 n2:NoAttr K C "redresses"
structure ClsCase (K:PySem.W.Frag)(C:Addr):Prop where
 cl:Cls K C
 n1:NoAttr K C "lines"
 n2:NoAttr K C "claims"
 n3:NoAttr K C "claim_numbers"
 n4:NoAttr K C "weights"
 n5:NoAttr K C "witness_numbers"
 n6:NoAttr K C "boats"
structure ClsProof (K:PySem.W.Frag)(C:Addr):Prop where
 cl:Cls K C
 n1:NoAttr K C "outcomes"
 n2:NoAttr K C "facts"
section
variable {P:Program}{w:World}{K:PySem.W.Frag}{mg:Str→Option Value}{base:Heap}{ad:Ads}{cd:Cds}
def zok:Sp:=fun vs H Q _=>∃ v n:Nat,vs=[.int v,.int n]∧v≤3∧n≤1000∧Q (.int (bitOf v n:Nat)) H
abbrev zqz:Stmt:=top 7
theorem sc_fact:FnScope ["verdict","number"] ["verdict","number"] (defScope zqz):=⟨rfl,rfl,rfl,by decide +kernel,rfl,by decide +kernel,by decide +kernel⟩
theorem bd_fact:BindOk "fact" "fact" zqz ["verdict","number"]:=fun _ _ _ _ _ _=>ls2 fun _ _=>rfl
theorem ok_fact (D:DefAt K mg "fact" zqz):Own P w K mg base "fact" 1 ["verdict","number"] zok:=by
 refine za5 D sc_fact bd_fact (fun vs H Q E h=>?_) (fun f cdv A outer s H vs Q E hr h=>?_)
 ·obtain ⟨v,n,rfl,_⟩:=h;rfl
 ·obtain ⟨v,n,rfl,hv,hn,k⟩:=h;refine ⟨_,(zae (zak (zc6 op_shl zan (zc6 zgh (zc6 op_mul zan (pv 1)) (pv 0))))),?_⟩;walk_at "rd2"
  refine ⟨.inl ⟨by decide,by decide⟩,⟨by omega,by omega,by decide⟩,?_⟩
  have e:(1:Int)*2^(4*(n:Int)+(v:Int)).toNat=((bitOf v n:Nat):Int):=by
   unfold bitOf;rw [show (4*(n:Int)+(v:Int)).toNat=4*n+v by omega,Int.one_mul]
   simp
  rw [e];exact k
def zfx (cd:Cds):Sp:=fun vs H Q _=>∃ (p dx:Addr),vs=[.ref p]∧H p=some (.ins cd.cClaim dx [])∧
 ∀ (H':Hp) (wd rl:Addr),H' p=some (.ins cd.cClaim dx (claimF 0 wd rl))→H' wd=some (.dK [])→H' rl=some (.lst [])→H wd=none→H rl=none→But p H H'→Q .non H'
abbrev zb0:Stmt:=inClass (top 49) 0
theorem zjh:FnScope ["self"] ["self"] (defScope zb0):=⟨rfl,rfl,rfl,by decide +kernel,rfl,by decide +kernel,by decide +kernel⟩
theorem zjy:BindOk "__init__" "Claim.__init__" zb0 ["self"]:=fun _ _ _ _ _ _=>ls1 fun _=>rfl
theorem ok_Claim (D:ClassAt K mg "Claim" cd.cClaim "Claim.__init__" zb0)(C:ClsClaim K cd.cClaim):OwnC P w K mg base "Claim" cd.cClaim 1 ["self"] (zfx cd):=by
 refine zh5 D zjh zjy (fun vs H Q E h=>?_) (fun f cdv A outer s H vs Q E hr h=>?_)
 ·obtain ⟨p,dx,rfl,_⟩:=h;rfl
 ·obtain ⟨p,dx,rfl,hp,k⟩:=h;have hu:=zf8 hr;refine ⟨_,(zad (zbc (pv 0) zan rfl)
   (zad (zbc (pv 0) zf3 rfl)
   (zae (zbc (pv 0) (zbd zaf) rfl)))),?_⟩
  walk_at "rd2"
  refine ⟨_,_,_,hp,C.cl,C.n1,(by show 0<1000;decide),fun wd hw=>?_⟩
  have npw:p≠wd:=fun e=>by rw [←e,zaa] at hw;cases hw
  refine ⟨_,_,_,by rw [zac npw,zaa],C.cl,C.n2,(by show 1<1000;decide),Nat.zero_le _,fun rl hl=>?_⟩
  have npl:p≠rl:=fun e=>by rw [←e,zaa] at hl;cases hl
  have nwl:wd≠rl:=fun e=>by rw [←e,zac (Ne.symm npw),zaa] at hl;cases hl
  refine ⟨_,_,_,by rw [zac npl,zaa],C.cl,C.n3,(by show 2<1000;decide),?_⟩
  rw [zac (Ne.symm npw)] at hw;rw [zac (Ne.symm npl),zac (Ne.symm nwl),zac (Ne.symm npl)] at hl;refine k _ wd rl zaa ?_ ?_ hw hl ?_
  ·rw [zac (Ne.symm npw),zac nwl,zac (Ne.symm npw),zaa]
  ·rw [zac (Ne.symm npl),zaa]
  ·intro b o e hb;rw [zac hb,zac (zag e hl),zac hb,zac (zag e hw),zac hb];exact e
def zgu (cd:Cds):Sp:=fun vs H Q _=>∃ (p dx:Addr) (r:RuleA),vs=[.ref p,.int r.line,.int r.made,.int r.need]∧H p=some (.ins cd.cRule dx [])∧
 ∀ H':Hp,H' p=some (.ins cd.cRule dx (ruleF r))→But p H H'→Q .non H'
abbrev zb8:Stmt:=inClass (top 50) 0
theorem zkk:FnScope ["self","line_number","made","needed"] ["self","line_number","made","needed"] (defScope zb8):=⟨rfl,rfl,rfl,by decide +kernel,rfl,by decide +kernel,by decide +kernel⟩
theorem zkx:BindOk "__init__" "Rule.__init__" zb8 ["self","line_number","made","needed"]:=fun _ _ _ _ _ _=>ls4 fun _ _ _ _=>rfl
theorem ok_Rule (D:ClassAt K mg "Rule" cd.cRule "Rule.__init__" zb8)(C:ClsRule K cd.cRule):OwnC P w K mg base "Rule" cd.cRule 1 ["self","line_number","made","needed"] (zgu cd):=by
 refine zh5 D zkk zkx (fun vs H Q E h=>?_) (fun f cdv A outer s H vs Q E hr h=>?_)
 ·obtain ⟨p,dx,r,rfl,_⟩:=h;rfl
 ·obtain ⟨p,dx,r,rfl,hp,k⟩:=h;refine ⟨_,(zad (zbc (pv 0) (pv 1) rfl)
   (zad (zbc (pv 0) (pv 2) rfl)
   (zae (zbc (pv 0) (pv 3) rfl)))),?_⟩
  walk_at "rd2"
  refine ⟨_,_,_,hp,C.cl,C.n1,(by show 0<1000;decide),_,_,_,zaa,C.cl,C.n2,(by show 1<1000;decide),_,_,_,zaa,C.cl,C.n3,(by show 2<1000;decide),?_⟩
  refine k _ zaa ?_;intro b o e hb;rw [zac hb,zac hb,zac hb];exact e
def zes (cd:Cds):Sp:=fun vs H Q _=>∃ (p dx:Addr),vs=[.ref p]∧H p=some (.ins cd.cBoat dx [])∧
 ∀ (H':Hp) (pn rd:Addr),H' p=some (.ins cd.cBoat dx (boatF pn rd))→H' pn=some (.lst [])→H' rd=some (.lst [])→H pn=none→H rd=none→pn≠rd→But p H H'→Q .non H'
abbrev zcc:Stmt:=inClass (top 51) 0
theorem zko:FnScope ["self"] ["self"] (defScope zcc):=⟨rfl,rfl,rfl,by decide +kernel,rfl,by decide +kernel,by decide +kernel⟩
theorem zk1:BindOk "__init__" "Boat.__init__" zcc ["self"]:=fun _ _ _ _ _ _=>ls1 fun _=>rfl
theorem ok_Boat (D:ClassAt K mg "Boat" cd.cBoat "Boat.__init__" zcc)(C:ClsBoat K cd.cBoat):OwnC P w K mg base "Boat" cd.cBoat 1 ["self"] (zes cd):=by
 refine zh5 D zko zk1 (fun vs H Q E h=>?_) (fun f cdv A outer s H vs Q E hr h=>?_)
 ·obtain ⟨p,dx,rfl,_⟩:=h;rfl
 ·obtain ⟨p,dx,rfl,hp,k⟩:=h;refine ⟨_,(zad (zbc (pv 0) (zbd zaf) rfl)
   (zae (zbc (pv 0) (zbd zaf) rfl))),?_⟩
  walk_at "rd2"
  refine ⟨Nat.zero_le _,fun pn hw=>?_⟩;have npw:p≠pn:=zag hp hw;refine ⟨_,_,_,by rw [zac npw];exact hp,C.cl,C.n1,(by show 0<1000;decide),Nat.zero_le _,fun rd hl=>?_⟩
  have npl:p≠rd:=fun e=>by rw [←e,zaa] at hl;cases hl
  have nwl:pn≠rd:=fun e=>by rw [←e,zac (Ne.symm npw),zaa] at hl;cases hl
  refine ⟨_,_,_,by rw [zac npl,zaa],C.cl,C.n2,(by show 1<1000;decide),?_⟩
  rw [zac (Ne.symm npl),zac (Ne.symm nwl)] at hl;refine k _ pn rd zaa ?_ ?_ hw hl nwl ?_
  ·rw [zac (Ne.symm npw),zac nwl,zac (Ne.symm npw),zaa]
  ·rw [zac (Ne.symm npl),zaa]
  ·intro b o e hb;rw [zac hb,zac (zag e hl),zac hb,zac (zag e hw)];exact e
structure NewCase (cd:Cds)(H H':Hp)(p dx cl nu we wi bo:Addr):Prop where
 obj:H' p=some (.ins cd.cCase dx (caseF 0 cl nu we wi bo))
 hcl:H' cl=some (.lst [])
 hnu:H' nu=some (.dK [])
 hwe:H' we=some (.lst [])
 hwi:H' wi=some (.dK [])
 hbo:H' bo=some (.dK [])
 ncl:H cl=none
 nnu:H nu=none
 nwe:H we=none
 nwi:H wi=none
 nbo:H bo=none
 d1:cl≠we
 d2:nu≠wi
 d3:nu≠bo
 d4:wi≠bo
 but:But p H H'
def zer (cd:Cds):Sp:=fun vs H Q _=>∃ (p dx:Addr),vs=[.ref p]∧H p=some (.ins cd.cCase dx [])∧∀ (H':Hp) (cl nu we wi bo:Addr),NewCase cd H H' p dx cl nu we wi bo→Q .non H'
abbrev zcb:Stmt:=inClass (top 52) 0
theorem zkn:FnScope ["self"] ["self"] (defScope zcb):=⟨rfl,rfl,rfl,by decide +kernel,rfl,by decide +kernel,by decide +kernel⟩
theorem zk0:BindOk "__init__" "Case.__init__" zcb ["self"]:=fun _ _ _ _ _ _=>ls1 fun _=>rfl
theorem ok_Case (D:ClassAt K mg "Case" cd.cCase "Case.__init__" zcb)(C:ClsCase K cd.cCase):OwnC P w K mg base "Case" cd.cCase 1 ["self"] (zer cd):=by
 refine zh5 D zkn zk0 (fun vs H Q E h=>?_) (fun f cdv A outer s H vs Q E hr h=>?_)
 ·obtain ⟨p,dx,rfl,_⟩:=h;rfl
 ·obtain ⟨p,dx,rfl,hp,k⟩:=h;have hu:=zf8 hr;refine ⟨_,(zad (zbc (pv 0) zan rfl)
   (zad (zbc (pv 0) (zbd zaf) rfl)
   (zad (zbc (pv 0) zf3 rfl)
   (zad (zbc (pv 0) (zbd zaf) rfl)
   (zad (zbc (pv 0) zf3 rfl)
   (zae (zbc (pv 0) zf3 rfl))))))),?_⟩
  walk_at "rd2"
  refine ⟨_,_,_,hp,C.cl,C.n1,(by show 0<1000;decide),Nat.zero_le _,fun cl h1=>?_⟩
  have p1:p≠cl:=zag zaa h1;refine ⟨_,_,_,by rw [zac p1,zaa],C.cl,C.n2,(by show 1<1000;decide),fun nu h2=>?_⟩
  have p2:p≠nu:=zag zaa h2;refine ⟨_,_,_,by rw [zac p2,zaa],C.cl,C.n3,(by show 2<1000;decide),Nat.zero_le _,fun we h3=>?_⟩
  have p3:p≠we:=zag zaa h3;refine ⟨_,_,_,by rw [zac p3,zaa],C.cl,C.n4,(by show 3<1000;decide),fun wi h4=>?_⟩
  have p4:p≠wi:=zag zaa h4;refine ⟨_,_,_,by rw [zac p4,zaa],C.cl,C.n5,(by show 4<1000;decide),fun bo h5=>?_⟩
  have p5:p≠bo:=zag zaa h5;refine ⟨_,_,_,by rw [zac p5,zaa],C.cl,C.n6,(by show 5<1000;decide),?_⟩
  have g1:H cl=none:=by rw [zac (Ne.symm p1)] at h1;exact h1
  have c2:cl≠nu:=zag (by rw [zac (Ne.symm p1),zaa]) h2
  have g2:H nu=none:=by rw [zac (Ne.symm p2),zac (Ne.symm c2),zac (Ne.symm p2)] at h2;exact h2
  have c3:cl≠we:=zag (by rw [zac (Ne.symm p1),zac c2,zac (Ne.symm p1),zaa]) h3
  have d3:nu≠we:=zag (by rw [zac (Ne.symm p2),zaa]) h3
  have g3:H we=none:=by rw [zac (Ne.symm p3),zac (Ne.symm d3),zac (Ne.symm p3),zac (Ne.symm c3),zac (Ne.symm p3)] at h3;exact h3
  have c4:cl≠wi:=zag (by rw [zac (Ne.symm p1),zac c3,zac (Ne.symm p1),zac c2,zac (Ne.symm p1),zaa]) h4
  have d4:nu≠wi:=zag (by rw [zac (Ne.symm p2),zac d3,zac (Ne.symm p2),zaa]) h4
  have e4:we≠wi:=zag (by rw [zac (Ne.symm p3),zaa]) h4
  have g4:H wi=none:=by rw [zac (Ne.symm p4),zac (Ne.symm e4),zac (Ne.symm p4),zac (Ne.symm d4),zac (Ne.symm p4),zac (Ne.symm c4),zac (Ne.symm p4)] at h4;exact h4
  have c5:cl≠bo:=zag (by rw [zac (Ne.symm p1),zac c4,zac (Ne.symm p1),zac c3,zac (Ne.symm p1),zac c2,zac (Ne.symm p1),zaa]) h5
  have d5:nu≠bo:=zag (by rw [zac (Ne.symm p2),zac d4,zac (Ne.symm p2),zac d3,zac (Ne.symm p2),zaa]) h5
  have e5:we≠bo:=zag (by rw [zac (Ne.symm p3),zac e4,zac (Ne.symm p3),zaa]) h5
  have f5:wi≠bo:=zag (by rw [zac (Ne.symm p4),zaa]) h5
  have g5:H bo=none:=by rw [zac (Ne.symm p5),zac (Ne.symm f5),zac (Ne.symm p5),zac (Ne.symm e5),zac (Ne.symm p5),zac (Ne.symm d5),zac (Ne.symm p5),zac (Ne.symm c5),zac (Ne.symm p5)] at h5;exact h5
  refine k _ cl nu we wi bo ⟨zaa,?_,?_,?_,?_,?_,g1,g2,g3,g4,g5,c3,d4,d5,f5,?_⟩
  ·rw [zac (Ne.symm p1),zac c5,zac (Ne.symm p1),zac c4,zac (Ne.symm p1),zac c3,zac (Ne.symm p1),zac c2,zac (Ne.symm p1),zaa]
  ·rw [zac (Ne.symm p2),zac d5,zac (Ne.symm p2),zac d4,zac (Ne.symm p2),zac d3,zac (Ne.symm p2),zaa]
  ·rw [zac (Ne.symm p3),zac e5,zac (Ne.symm p3),zac e4,zac (Ne.symm p3),zaa]
  ·rw [zac (Ne.symm p4),zac f5,zac (Ne.symm p4),zaa]
  ·rw [zac (Ne.symm p5),zaa]
  ·intro b o e hb;rw [zac hb,zac (zag e g5),zac hb,zac (zag e g4),zac hb,zac (zag e g3),zac hb,zac (zag e g2),zac hb,zac (zag e g1),zac hb];exact e
def proofF (l:Addr)(f:Nat):List (Str×V):=[("outcomes",.ref l),("facts",.int f)]
def zfw (cd:Cds):Sp:=fun vs H Q _=>∃ (p dx:Addr),vs=[.ref p]∧H p=some (.ins cd.cProof dx [])∧
 ∀ (H':Hp) (l:Addr),H' p=some (.ins cd.cProof dx (proofF l 0))→H' l=some (.lst [])→H l=none→But p H H'→Q .non H'
abbrev zbw:Stmt:=inClass (top 28) 0
theorem zjf:FnScope ["self"] ["self"] (defScope zbw):=⟨rfl,rfl,rfl,by decide +kernel,rfl,by decide +kernel,by decide +kernel⟩
theorem zju:BindOk "__init__" "Proof.__init__" zbw ["self"]:=fun _ _ _ _ _ _=>ls1 fun _=>rfl
theorem ok_Proof (D:ClassAt K mg "Proof" cd.cProof "Proof.__init__" zbw)(C:ClsProof K cd.cProof):OwnC P w K mg base "Proof" cd.cProof 1 ["self"] (zfw cd):=by
 refine zh5 D zjf zju (fun vs H Q E h=>?_) (fun f cdv A outer s H vs Q E hr h=>?_)
 ·obtain ⟨p,dx,rfl,_⟩:=h;rfl
 ·obtain ⟨p,dx,rfl,hp,k⟩:=h;refine ⟨_,(zad (zbc (pv 0) (zbd zaf) rfl)
   (zae (zbc (pv 0) zan rfl))),?_⟩
  walk_at "rd2"
  refine ⟨Nat.zero_le _,fun l hl=>?_⟩;have npl:p≠l:=zag hp hl;refine ⟨_,_,_,by rw [zac npl];exact hp,C.cl,C.n1,(by show 0<1000;decide),_,_,_,zaa,C.cl,C.n2,(by show 1<1000;decide),?_⟩
  refine k _ l zaa ?_ hl ?_
  ·rw [zac (Ne.symm npl),zac (Ne.symm npl),zaa]
  ·intro b o e hb;rw [zac hb,zac hb,zac (zag e hl)];exact e
end
end
section
open PySem PySem.Spec PyProof.Rows L2
open RgCase (Bytes ascii nameOk claimName cutAt Line Cond Name Case)
def kn:Line→Nat
 | .claim _=>0
 | .weight _ _=>1
 | .word _ _ _=>2
 | .seen _ _=>3
 | .rule _ _ _=>4
 | .penalty _ _ _=>5
 | .redress _ _=>6
def kb:Line→Bool
 | .word s _ _=>s
 | .seen s _=>s
 | .rule s _ _=>s
 | _=>true
def kindStr (k:Nat)(b:Bool):Bytes:=match k with
 | 0=>ascii "claim"
 | 1=>ascii "weight"
 | 2=>if b=true then ascii "says" else ascii "denies"
 | 3=>if b=true then ascii "seen" else ascii "unseen"
 | 4=>if b=true then ascii "for" else ascii "against"
 | 5=>ascii "penalty"
 | _=>ascii "redress"
theorem zeo (x:Line):lineKind x=kindStr (kn x) (kb x):=by cases x <;> rfl
theorem zwl (x:Line):kn x<7:=by cases x <;> simp [kn]
theorem kd_eq {s:Str}{p:Nat→Prop}(h:∀ (k:Fin 7) (b:Bool),toS (kindStr k.1 b)=s↔p k.1)(x:Line):(toS (lineKind x)=s)=p (kn x):=propext (by rw [zeo];exact h ⟨kn x,zwl x⟩ (kb x))
theorem zk6 (x:Line):(toS (lineKind x)=Str.ofString "claim")=(kn x=0):=kd_eq (s:=Str.ofString "claim") (p:=fun k=>k=0) (by decide +kernel) x
theorem zrw (x:Line):(toS (lineKind x)=Str.ofString "weight")=(kn x=1):=kd_eq (s:=Str.ofString "weight") (p:=fun k=>k=1) (by decide +kernel) x
theorem zwm (x:Line):(toS (lineKind x)=Str.ofString "penalty")=(kn x=5):=kd_eq (s:=Str.ofString "penalty") (p:=fun k=>k=5) (by decide +kernel) x
theorem kd_in {l:List V}{p:Nat→Prop}[DecidablePred p](h:∀ (k:Fin 7) (b:Bool),inV (.str (toS (kindStr k.1 b))) l=decide (p k.1))(x:Line):inV (.str (toS (lineKind x))) l=decide (p (kn x)):=by
 rw [zeo];exact h ⟨kn x,zwl x⟩ (kb x)
theorem kd_word (x:Line):inV (.str (toS (lineKind x))) [.str "says",.str "denies"]=decide (kn x=2):=kd_in (p:=fun k=>k=2) (by decide +kernel) x
theorem kd_seen (x:Line):inV (.str (toS (lineKind x))) [.str "seen",.str "unseen"]=decide (kn x=3):=kd_in (p:=fun k=>k=3) (by decide +kernel) x
theorem kd_rule (x:Line):inV (.str (toS (lineKind x))) [.str "for",.str "against"]=decide (kn x=4):=kd_in (p:=fun k=>k=4) (by decide +kernel) x
theorem kd_boat (x:Line):inV (.str (toS (lineKind x))) [.str "penalty",.str "redress"]=decide (5≤kn x):=kd_in (p:=fun k=>5≤k) (by decide +kernel) x
theorem kd_wit (x:Line):inV (.str (toS (lineKind x))) [.str "weight",.str "says",.str "denies"]=decide (kn x=1∨kn x=2):=kd_in (p:=fun k=>k=1∨k=2) (by decide +kernel) x
theorem kd_says {x:Line}(h:kn x=2):(toS (lineKind x)=Str.ofString "says")=(kb x=true):=propext (by
 rw [zeo,h];cases kb x <;> decide +kernel)
theorem kd_see {x:Line}(h:kn x=3):(toS (lineKind x)=Str.ofString "seen")=(kb x=true):=propext (by
 rw [zeo,h];cases kb x <;> decide +kernel)
theorem kd_for {x:Line}(h:kn x=4):(toS (lineKind x)=Str.ofString "for")=(kb x=true):=propext (by
 rw [zeo,h];cases kb x <;> decide +kernel)
theorem name_ne {n:Name}(h:nameOk n=true):toS n≠Str.ofString "":=by
 intro e;have e2:Str.ofString ""=toS []:=by decide +kernel
 rw [e2] at e;rw [zle e] at h;exact absurd h (by decide)
def lineClaim:Line→Bytes
 | .claim n=>n
 | .word _ _ n=>n
 | .seen _ n=>n
 | .rule _ n _=>n
 | _=>[]
def lineWho:Line→Bytes
 | .weight a _=>a
 | .word _ a _=>a
 | .penalty a _ _=>a
 | .redress a _=>a
 | _=>[]
def lineAmount:Line→Nat
 | .weight _ n=>n
 | .penalty _ n _=>n
 | _=>0
theorem zrr (x:Line):lineParts x=⟨toS (lineClaim x),toS (lineWho x),(lineAmount x:Nat)⟩:=by
 have e:Str.empty=toS []:=by decide +kernel
 cases x <;> simp [lineParts,lineClaim,lineWho,lineAmount,e]
theorem zcv (x:Line):lineConds x=condsOf x:=by cases x <;> rfl
section
variable (n:Nat)(cl nu we wi bo a b:Addr)(r:RuleA)
theorem zge:(caseF n cl nu we wi bo).lookup ("lines":Str)=some (.int n):=by rfl
theorem zdn:(caseF n cl nu we wi bo).lookup ("claims":Str)=some (.ref cl):=by rfl
theorem zi5:(caseF n cl nu we wi bo).lookup ("claim_numbers":Str)=some (.ref nu):=by rfl
theorem zez:(caseF n cl nu we wi bo).lookup ("weights":Str)=some (.ref we):=by rfl
theorem zgd:(caseF n cl nu we wi bo).lookup ("witness_numbers":Str)=some (.ref wi):=by rfl
theorem zvk:(caseF n cl nu we wi bo).lookup ("boats":Str)=some (.ref bo):=by rfl
theorem caseF_p1 (m:Int)(k:Nat)(h:m=k):putF "lines" (.int m) (caseF n cl nu we wi bo)=caseF k cl nu we wi bo:=by subst h;rfl
theorem zl9:(claimF n a b).lookup ("known":Str)=some (.int n):=by rfl
theorem zi2:(claimF n a b).lookup ("words":Str)=some (.ref a):=by rfl
theorem zsd:(claimF n a b).lookup ("rules":Str)=some (.ref b):=by rfl
theorem ruleF_g1:(ruleF r).lookup ("line_number":Str)=some (.int r.line):=by rfl
theorem ruleF_g2:(ruleF r).lookup ("made":Str)=some (.int r.made):=by rfl
theorem ruleF_g3:(ruleF r).lookup ("needed":Str)=some (.int r.need):=by rfl
theorem zvn:(boatF a b).lookup ("penalties":Str)=some (.ref a):=by rfl
theorem zvm:(boatF a b).lookup ("redresses":Str)=some (.ref b):=by rfl
theorem zio:(proofF a n).lookup ("outcomes":Str)=some (.ref a):=by rfl
theorem zin:(proofF a n).lookup ("facts":Str)=some (.int n):=by rfl
end
def Cells (cd:Cds)(H:Hp)(L:Lay)(A:Abs):Prop:=∀ t o,obj cd L A t=some o→H (L.pl t)=some o
section
variable {cd:Cds}{H H':Hp}{L:Lay}{A:Abs}
theorem Cells.same (h:Cells cd H L A)(s:Same H H'):Cells cd H' L A:=fun t o e=>s _ _ (h t o e)
theorem Cells.case (h:Cells cd H L A):H (L.pl .case)=some (.ins cd.cCase (L.dx .case) (caseF A.lines (L.pl .claims) (L.pl .nums) (L.pl .weights) (L.pl .wits) (L.pl .boats))):=h .case _ rfl
theorem Cells.claims (h:Cells cd H L A):H (L.pl .claims)=some (.lst (refs (fun i=>L.pl (.claim i)) A.claims.length)):=h .claims _ rfl
theorem Cells.nums (h:Cells cd H L A):H (L.pl .nums)=some (.dK (dictOf (fun i=>.int i) A.nums)):=h .nums _ rfl
theorem Cells.weights (h:Cells cd H L A):H (L.pl .weights)=some (.lst (A.weights.map fun (w:Nat)=>V.int w)):=h .weights _ rfl
theorem Cells.wits (h:Cells cd H L A):H (L.pl .wits)=some (.dK (dictOf (fun i=>.int i) A.wits)):=h .wits _ rfl
theorem Cells.boats (h:Cells cd H L A):H (L.pl .boats)=some (.dK (dictOf (fun k=>.ref (L.pl (.boat k))) A.bnames)):=h .boats _ rfl
theorem Cells.claim (h:Cells cd H L A){i:Nat}{q:ClaimA}(e:A.claims[i]? = some q):H (L.pl (.claim i))=some (.ins cd.cClaim (L.dx (.claim i)) (claimF q.known (L.pl (.words i)) (L.pl (.rules i)))):=h (.claim i) _ (by show A.claims[i]?.map _=_;rw [e];rfl)
theorem Cells.words (h:Cells cd H L A){i:Nat}{q:ClaimA}(e:A.claims[i]? = some q):H (L.pl (.words i))=some (.dK (wordsK q)):=h (.words i) _ (by show A.claims[i]?.map _=_;rw [e];rfl)
theorem Cells.rules (h:Cells cd H L A){i:Nat}{q:ClaimA}(e:A.claims[i]? = some q):H (L.pl (.rules i))=some (.lst (refs (fun j=>L.pl (.rule i j)) q.rules.length)):=h (.rules i) _ (by show A.claims[i]?.map _=_;rw [e];rfl)
theorem Cells.rule (h:Cells cd H L A){i j:Nat}{q:ClaimA}{r:RuleA}(e:A.claims[i]? = some q)(e2:q.rules[j]? = some r):H (L.pl (.rule i j))=some (.ins cd.cRule (L.dx (.rule i j)) (ruleF r)):=
 h (.rule i j) _ (by show A.claims[i]?.bind _=_;rw [e];show q.rules[j]?.map _=_;rw [e2];rfl)
theorem Cells.boat (h:Cells cd H L A){k:Nat}{q:BoatA}(e:A.boats[k]? = some q):H (L.pl (.boat k))=some (.ins cd.cBoat (L.dx (.boat k)) (boatF (L.pl (.pens k)) (L.pl (.reds k)))):=h (.boat k) _ (by show A.boats[k]?.map _=_;rw [e];rfl)
theorem Cells.pens (h:Cells cd H L A){k:Nat}{q:BoatA}(e:A.boats[k]? = some q):H (L.pl (.pens k))=some (.lst (refs (fun j=>L.pl (.pen k j)) q.pens.length)):=h (.pens k) _ (by show A.boats[k]?.map _=_;rw [e];rfl)
theorem Cells.reds (h:Cells cd H L A){k:Nat}{q:BoatA}(e:A.boats[k]? = some q):H (L.pl (.reds k))=some (.lst (q.reds.map fun (n:Nat)=>V.int n)):=h (.reds k) _ (by show A.boats[k]?.map _=_;rw [e];rfl)
theorem Cells.pen (h:Cells cd H L A){k j:Nat}{q:BoatA}{x:Nat×Nat}(e:A.boats[k]? = some q)(e2:q.pens[j]? = some x):H (L.pl (.pen k j))=some (.tup [.int x.1,.int x.2]):=
 h (.pen k j) _ (by show A.boats[k]?.bind _=_;rw [e];show q.pens[j]?.map _=_;rw [e2];rfl)
end
theorem LineObj.same {C:Addr}{H H':Hp}{p:Addr}{x:Line}{l:Addr}{ps:List Addr}(h:LineObj C H p x l ps)(s:Same H H'):LineObj C H' p x l ps:=by
 obtain ⟨⟨dx,h1⟩,h2,h3⟩:=h;exact ⟨⟨dx,s _ _ h1⟩,s _ _ h2,Paired.zfc h3 fun q _ _ hq=>s _ _ hq⟩
theorem LineObj.at_ {C:Addr}{H:Hp}{p:Addr}{x:Line}{l:Addr}{ps:List Addr}(h:LineObj C H p x l ps):∃ dx,H p=some (.ins C dx (lineF (toS (lineKind x)) (toS (lineClaim x)) (toS (lineWho x)) (lineAmount x:Nat) l)):=by
 obtain ⟨⟨dx,h1⟩,_⟩:=h;rw [zrr] at h1;exact ⟨dx,h1⟩
section
variable {P:Program}{w:World}{K:PySem.W.Frag}{mg:Str→Option Value}{base:Heap}{ad:Ads}{cd:Cds}
theorem fget {H:Hp}{a C dx:Addr}{fs:List (Str×V)}{f:Str}{v:V}{R:V→Prop}(h:H a=some (.ins C dx fs))(cl:Cls K C)(na:NoAttr K C f)(lk:fs.lookup f=some v)(k:R v):
  ∃ x x1 x2,H a=some (.ins x x1 x2)∧Cls K x∧NoAttr K x f∧∃ v,x2.lookup f=some v∧R v:=⟨_,_,_,h,cl,na,_,lk,k⟩
theorem zd1 {H:Hp}{a:Addr}{f:Nat→V}{ns:List Name}(h:H a=some (.dK (dictOf f ns)))(n:Name):DGet H a (.str (toS n)) (if n∈ns then some (f (ns.idxOf n)) else none):=by
 rw [←zie f n ns];exact DGet.k (k:=Sum.inr (toS n)) h
theorem zps {H:Hp}{a:Addr}{f:Nat→V}{ns:List Name}{n:Name}(h:H a=some (.dK (dictOf f ns)))(hn:n∈ns):DGet H a (.str (toS n)) (some (f (ns.idxOf n))):=by
 have:=zd1 h n;rw [if_pos hn] at this;exact this
theorem cutc_ (C:Prop){R G:Prop}(pf:C→R)(main:(C→R)→G):G:=main pf
theorem cut_ {R G:Prop}(pf:R)(main:R→G):G:=main pf
theorem zrm {x:Line}(h:x.ok=true)(hk:kn x=0∨kn x=2∨kn x=3∨kn x=4):claimName (lineClaim x)=true:=by
 cases x with
 | claim n=>exact h
 | word s w n=>simp only [Line.ok,Bool.and_eq_true] at h;exact h.2
 | seen s n=>exact h
 | rule f n cs=>simp only [Line.ok,Bool.and_eq_true] at h;exact h.1
 | _=>simp [kn] at hk
theorem zsc {n:Name}(h:claimName n=true):nameOk n=true:=by
 unfold claimName at h;exact (Bool.and_eq_true_iff.mp h).1
theorem zm1 {x:Line}(hk:kn x=1∨5≤kn x):lineClaim x=[]:=by
 cases x <;> simp_all [kn,lineClaim]
theorem zxn:toS []=Str.ofString "":=by decide +kernel
def zc8 (CL:Addr)(cd:Cds):Sp:=fun vs H Q _=>∃ (L:Lay) (A:Abs) (p l:Addr) (ps:List Addr) (x:Line),vs=[.ref (L.pl .case),.ref p]∧Cells cd H L A∧LineObj CL H p x l ps∧lineClaim x∈A.nums∧A.nums.length≤A.claims.length∧A.claims.length≤1000∧
 Q (.ref (L.pl (.claim (A.nums.idxOf (lineClaim x))))) H
abbrev zfg:Stmt:=top 53
theorem ztb:FnScope ["case","line"] ["case","line"] (defScope zfg):=⟨rfl,rfl,rfl,by decide +kernel,rfl,by decide +kernel,by decide +kernel⟩
theorem zui:BindOk "claim_of" "claim_of" zfg ["case","line"]:=fun _ _ _ _ _ _=>ls2 fun _ _=>rfl
theorem zto (D:DefAt K mg "claim_of" zfg)(C:ClsLine K ad.cLine)(CC:ClsCase K cd.cCase):Own P w K mg base "claim_of" 1 ["case","line"] (zc8 ad.cLine cd):=by
 refine za5 D ztb zui (fun vs H Q E h=>?_) (fun f cdv A outer s H vs Q E hr h=>?_)
 ·obtain ⟨L,A,p,l,ps,x,rfl,_⟩:=h;rfl
 ·obtain ⟨L,B,p,l,ps,x,rfl,hC,hL,hn,hle,hb,k⟩:=h;have hu:=zf8 hr;obtain ⟨dx,hp⟩:=hL.at_;refine ⟨_,(zae (zak (zbt zax (zah (pv 0) rfl) (zlq hu (zah (pv 0) rfl) (zah (pv 1) rfl) (fun _ _=>rfl)) (fun _ _=>rfl)))),?_⟩;walk_at "rd2"
  have hi:B.nums.idxOf (lineClaim x)<B.claims.length:=Nat.lt_of_lt_of_le (List.idxOf_lt_length_of_mem hn) hle;exact fget hC.case CC.cl CC.n2 (zdn ..) (fget hC.case CC.cl CC.n3 (zi5 ..) (fget hp C.cl C.n2 (zho ..) ⟨_,rfl,_,zps hC.nums hn,_,rfl,_,_,rfl,SqL.of hC.claims,_,zaj (zk4 hi),k⟩))
theorem zvi {H:Hp}{l:Addr}{ps:List Addr}{cs:List Cond}(h:CondsAt H l ps cs){i:Nat}{y:V}(hy:(ps.map V.ref)[i]? = some y):
  ∃ q cq,ps[i]? = some q∧cs[i]? = some cq∧y=.ref q∧H q=some (.tup (condV cq)):=by
 rw [List.getElem?_map] at hy;cases e:ps[i]? with
 | none=>rw [e] at hy;cases hy
 | some q=>
  rw [e] at hy;obtain ⟨cq,h1,h2⟩:=zcu h.tup e;exact ⟨q,cq,rfl,h1,(Option.some.inj hy).symm,h2⟩
theorem zvh {c:Case}{x:Line}{b0 i:Nat}{cq:Cond}(hb0:b0=beforeOf (RgCase.claims c) x)(h:(lineConds x)[i]? = some cq)(hc:condOk (RgCase.claims c) b0 cq=false):RgCase.stands c x=false:=by
 rw [zlg,←hb0];have:(condsOf x).all (condOk (RgCase.claims c) b0)=false:=by
  rw [List.all_eq_false];refine ⟨cq,?_,by rw [hc];exact Bool.false_ne_true⟩
  rw [←zcv];exact List.mem_of_getElem? h
 rw [this,Bool.and_false]
def csP (H:Hp)(c:Case)(x:Line)(p:Addr)(L:Lay)(b0 i:Nat)(σ:L2.St)(H':Hp):Prop:=(∃ v4:Option V,σ=[some (.ref (L.pl .case)),some (.ref p),some (.ref (L.pl .nums)),some (.int b0),v4])∧Same H H'∧((condsOf x).take i).all (condOk (RgCase.claims c) b0)=true
def zgs (CL:Addr)(cd:Cds):Sp:=fun vs H Q _=>∃ (L:Lay) (c:Case) (p l:Addr) (ps:List Addr) (x:Line),vs=[.ref (L.pl .case),.ref p]∧Cells cd H L (absOf c)∧LineObj CL H p x l ps∧x.ok=true∧
 ∀ H',Same H H'→Q (.bl (RgCase.stands c x)) H'
abbrev zef:Stmt:=top 54
theorem zet:FnScope ["case","line","numbers","before","condition"] ["case","line"] (defScope zef):=⟨rfl,rfl,rfl,by decide +kernel,rfl,by decide +kernel,by decide +kernel⟩
theorem zsp:BindOk "can_stand" "can_stand" zef ["case","line"]:=fun _ _ _ _ _ _=>ls2 fun _ _=>rfl
theorem zrn (D:DefAt K mg "can_stand" zef)(T:TxtR mg)(C:ClsLine K ad.cLine)(CC:ClsCase K cd.cCase):Own P w K mg base "can_stand" 1 ["case","line"] (zgs ad.cLine cd):=by
 refine za5 D zet zsp (fun vs H Q E h=>?_) (fun f cdv A outer s H vs Q E hr h=>?_)
 ·obtain ⟨L,c,p,l,ps,x,rfl,_⟩:=h;rfl
 ·obtain ⟨L,c,p,l,ps,x,rfl,hC,hL,hok,k⟩:=h;have hu:=zf8 hr;obtain ⟨dx,hp⟩:=hL.at_;refine ⟨_,(zad (zat (i:=2) zet.nd rfl (Or.inl rfl) (zah (pv 0) rfl))
   (zad (zav (pw_and (zai zmp (zah (pv 1) rfl) zaw (nomark _)) (pw_and (zai zmp (zah (pv 1) rfl) zaw (nomark _)) (pw_and1 (pt_cmp (zir hu (zah (pv 1) rfl) (pv 2)) rfl)))).pt (zae (zak zmo)) zam)
   (zad (zat (i:=3) zet.nd rfl (Or.inl rfl) (zcj (zai zbl (zah (pv 1) rfl) (zc7 (zab zaw (zab zaw zaf))) rfl) (zlq hu (pv 2) (zah (pv 1) rfl) (fun _ _=>rfl)) (zao call_lenD (by rfl) T.b_len PySem.boot_len (zab (pv 2) zaf))))
   (zad (zim PassesOwn.never rfl (zfb (zah (pv 1) rfl)) (zbj (i:=4) zet.nd rfl (Or.inl rfl))
    (zae (zav (zai zv8 (zow hu (pv 2) (zbt zl4 (pv 4) zan (fun _ _=>rfl)) (pv 3) ⟨rfl,rfl,rfl,rfl⟩) (pv 3) (nomark _)) (zae (zak zmo)) zam)))
   (zae (zak zmo)))))),?_⟩
  walk_at "rd2"
  refine fget hC.case CC.cl CC.n3 (zi5 ..) (fget hp C.cl C.n1 (zbi ..) ⟨rfl,?_⟩);simp only [V.str.injEq,zk6];have hnA:(absOf c).nums=RgCase.claims c:=rfl;apply cutc_ (kn x=2∨kn x=3∨kn x=4→lineClaim x∈RgCase.claims c)
  case main=>
   intro rest;by_cases h0:kn x=0
   ·rw [if_neg (by rw [h0];exact fun z=>z rfl),if_neg Bool.false_ne_true]
    exact rest (by omega)
   ·rw [if_pos h0];refine fget hp C.cl C.n2 (zho ..) ⟨rfl,?_⟩;simp only [V.str.injEq];by_cases h1:kn x=1∨5≤kn x
    ·rw [if_neg (by rw [zm1 h1,zxn];exact fun z=>z rfl),if_neg Bool.false_ne_true]
     exact rest (by omega)
    ·have hk:=zwl x;have hcn:=zsc (zrm hok (by omega))
     rw [if_pos (name_ne hcn)];refine fget hp C.cl C.n2 (zho ..) ⟨_,rfl,_,zd1 hC.nums _,?_⟩;by_cases hin:lineClaim x∈RgCase.claims c
     ·rw [if_pos (show lineClaim x∈(absOf c).nums from hin),if_neg (by simp)]
      exact rest fun _=>hin
     ·rw [if_neg (show ¬ lineClaim x∈(absOf c).nums from hin),if_pos (show (none:Option V).isSome=false from rfl)]
      have e:RgCase.stands c x=false:=by
       rw [zlg];have:ownClaim x=[lineClaim x]:=by cases x <;> simp_all [kn,ownClaim,lineClaim]
       rw [this];simp [hin]
      rw [←e];exact k H (Same.refl H)
  intro hown;have hr4:kn x=4→lineClaim x∈RgCase.claims c:=fun h=>hown (.inr (.inr h));refine fget hp C.cl C.n1 (zbi ..) ⟨by decide,fun t ht=>⟨_,.inr (SqT.of zaa),rfl,rfl,?_⟩⟩
  have S1:Same H (upd H t (.tup [V.str (Str.ofString "for"),V.str (Str.ofString "against")])):=Same.new ht;generalize upd H t (.tup [V.str (Str.ofString "for"),V.str (Str.ofString "against")])=H1 at S1
  have hC1:=hC.same S1;have hp1:=S1 _ _ hp;have hL1:=hL.same S1;have hl1:=hL1.conds.lst;rw [if_neg Bool.false_ne_true,kd_rule];simp only [decide_eq_true_eq];obtain ⟨b0,hb0⟩:∃ b0:Nat,b0=beforeOf (RgCase.claims c) x:=⟨_,rfl⟩;apply cut_
  case main=>
   intro loop;by_cases h4:kn x=4
   ·rw [if_pos h4];refine fget hp1 C.cl C.n2 (zho ..) ⟨_,rfl,_,zps hC1.nums (hr4 h4),?_⟩;have e:((absOf c).nums.idxOf (lineClaim x))=b0:=by
     rw [hb0];cases x <;> simp_all [kn,beforeOf,lineClaim]
    rw [e];exact loop
   ·rw [if_neg h4];refine ⟨_,rfl,_,hC1.nums,?_⟩;have e:(dictOf (fun i=>V.int i) (absOf c).nums).length=b0:=by
     rw [zhr,hb0];cases x <;> first | rfl | exact absurd rfl h4
    rw [e];exact loop
  refine ⟨_,rfl,p,_,_,_,_,rfl,hp1,C.cl,C.n5,zpi ..,l,rfl,⟨_,SqL.of hl1⟩,zk7 (K:=K) (a:=l) (xs:=ps.map V.ref) (csP H c x p L b0) ⟨⟨none,rfl⟩,S1,by simp⟩ (fun i σ H' _ ⟨_,S',_⟩=>SqL.of (S' _ _ hL.conds.lst)) ?_ ?_⟩
  ·rintro i y σ H' hy ⟨⟨v4,rfl⟩,S',hall⟩;obtain ⟨q,cq,hq1,hq2,rfl,hq3⟩:=zvi hL.conds hy;have hq4:=S' _ _ hq3;have hC':=hC.same S';walk_at "rd2"
   refine ⟨.inl ⟨_,.inl hC'.nums⟩,_,SqT.of hq4,_,zaj (j:=1) rfl,_,zd1 hC'.nums cq.claim,?_⟩;have ht:(condsOf x).take (i+1)=(condsOf x).take i++[cq]:=by
    rw [List.take_add_one,←zcv,hq2];rfl
   by_cases hin:cq.claim∈(absOf c).nums
   ·rw [if_pos hin];show ∃ x_1,V.int ((absOf c).nums.idxOf cq.claim:Nat)=V.int x_1∧_;refine ⟨_,rfl,?_⟩;by_cases hlt:(absOf c).nums.idxOf cq.claim<b0
    ·rw [if_neg (by omega)]
     refine ⟨⟨_,rfl⟩,S',?_⟩;rw [ht,List.all_append,hall];show (true&&(condOk (RgCase.claims c) b0 cq&&true))=true;simp only [Bool.true_and,Bool.and_true];exact decide_eq_true ⟨hin,hlt⟩
    ·rw [if_pos (by omega)]
     have e:RgCase.stands c x=false:=zvh hb0 hq2 (by unfold condOk;exact decide_eq_false fun z=>hlt z.2)
     rw [←e];exact k _ S'
   ·rw [if_neg hin];refine ⟨_,rfl,?_⟩;rw [if_pos (by omega)]
    have e:RgCase.stands c x=false:=zvh hb0 hq2 (by unfold condOk;exact decide_eq_false fun z=>hin z.1)
    rw [←e];exact k _ S'
  ·rintro σ H' ⟨⟨v4,rfl⟩,S',hall⟩;walk_at "rd2"
   have hlen:ps.length=(condsOf x).length:=by rw [←zcv];exact Paired.length hL.conds.tup
   rw [List.length_map,hlen,List.take_length] at hall;have e:RgCase.stands c x=true:=by
    rw [zlg,←hb0,hall,Bool.and_true];have hk:=zwl x;cases x <;> first | rfl | (simp only [ownClaim,List.all_cons,List.all_nil,Bool.and_true];exact decide_eq_true (hown (by simp [kn])))
   rw [←e];exact k _ S'
end
end
section
open PySem PySem.Spec PyProof.Rows L2
open RgCase (Bytes ascii nameOk claimName cutAt Line Cond Name Case)
section
variable {P:Program}{w:World}{K:PySem.W.Frag}{mg:Str→Option Value}{base:Heap}{ad:Ads}{cd:Cds}
theorem zfe {c:Case}{x:Line}(h:RgCase.stands c x=true)(hk:kn x=2∨kn x=3∨kn x=4):lineClaim x∈RgCase.claims c:=by
 refine za3 h _ ?_;cases x <;> simp_all [kn,lineClaim,Line.claims]
theorem zhd {c:Case}{n:Name}(h:n∈RgCase.claims c):(absOf c).claims[(absOf c).nums.idxOf n]? = some (claimA c n):=by
 show ((RgCase.claims c).map (claimA c))[(RgCase.claims c).idxOf n]? = _;have hl:=List.idxOf_lt_length_of_mem h;rw [List.getElem?_map,List.getElem?_eq_getElem hl,List.getElem_idxOf hl];rfl
theorem za9 (c:Case):(absOf c).claims.length=(RgCase.claims c).length:=List.length_map _
theorem zqi (q:ClaimA)(i:Nat):(valV (wordsK q) (Sum.inl (i:Int))).isSome=decide (∃ x∈q.words,x.1=i):=by
 unfold wordsK;generalize q.words=ws
 induction ws with
 | nil=>simp [valV]
 | cons y r ih=>
  unfold valV at ih ⊢;rw [List.map_cons,List.find?_cons];by_cases e:y.1=i
  ·have:decide ((Sum.inl (y.1:Int):Key)=Sum.inl (i:Int))=true:=decide_eq_true (by rw [e])
   simp only [this];simp [e]
  ·have:decide ((Sum.inl (y.1:Int):Key)=Sum.inl (i:Int))=false:=decide_eq_false fun z=>e (by have:=Sum.inl.inj z;omega)
   simp only [this];rw [ih];by_cases h:∃ x∈r,x.1=i
   ·rw [decide_eq_true h,decide_eq_true];obtain ⟨x,hx,hx2⟩:=h;exact ⟨x,List.mem_cons_of_mem _ hx,hx2⟩
   ·rw [decide_eq_false h,decide_eq_false];rintro ⟨x,hx,hx2⟩;rcases List.mem_cons.mp hx with rfl | hx
    ·exact e hx2
    ·exact h ⟨x,hx,hx2⟩
def zjd (CL:Addr)(cd:Cds):Sp:=fun vs H Q _=>∃ (L:Lay) (c:Case) (p l:Addr) (ps:List Addr) (x:Line),vs=[.ref (L.pl .case),.ref p]∧Cells cd H L (absOf c)∧LineObj CL H p x l ps∧Valid c∧RgCase.stands c x=true∧
 ∀ H',Same H H'→Q (.bl (RgCase.clashes c x)) H'
abbrev zg6:Stmt:=top 55
theorem zv0:FnScope ["case","line"] ["case","line"] (defScope zg6):=⟨rfl,rfl,rfl,by decide +kernel,rfl,by decide +kernel,by decide +kernel⟩
theorem zxa:BindOk "clashes" "clashes" zg6 ["case","line"]:=fun _ _ _ _ _ _=>ls2 fun _ _=>rfl
theorem zwc (D:DefAt K mg "clashes" zg6)(T:TxtR mg)(C:ClsLine K ad.cLine)(CC:ClsCase K cd.cCase)(CM:ClsClaim K cd.cClaim)(O_claim_of:Own P w K mg base "claim_of" 1 ["case","line"] (zc8 ad.cLine cd)):
  Own P w K mg base "clashes" 2 ["case","line"] (zjd ad.cLine cd):=by
 refine za5 D zv0 zxa (fun vs H Q E h=>?_) (fun f cdv A outer s H vs Q E hr h=>?_)
 ·obtain ⟨L,c,p,l,ps,x,rfl,_⟩:=h;rfl
 ·obtain ⟨L,c,p,l,ps,x,rfl,hC,hL,hv,hst,k⟩:=h;have hu:=zf8 hr;obtain ⟨dx,hp⟩:=hL.at_;obtain ⟨vb1,vb2,vb3⟩:=zbe hv;refine ⟨_,(zad (zav (zai zcd (zah (pv 1) rfl) zaw (nomark _)) (zae (zak (zu2 (pc_din hu (zah (pv 1) rfl) (zah (pv 0) rfl)) rfl))) zam)
   (zad (zav (zai zcd (zah (pv 1) rfl) zaw (nomark _)) (zae (zak (zu2 (pc_din hu (zah (pv 1) rfl) (zah (pv 0) rfl)) rfl))) zam)
   (zad (zav (zai zbl (zah (pv 1) rfl) (zc7 (zab zaw (zab zaw zaf))) rfl) (zae (zak (zu2 (pc_dinO hu (pe_dget1 hu (zah (pv 0) rfl) (zah (pv 1) rfl) ⟨rfl,rfl,rfl,rfl⟩) (zah (zar O_claim_of (hr.mono (by decide)) (zab (pv 0) (zab (pv 1) zaf))) rfl)) rfl))) zam)
   (zad (zav (zai zbl (zah (pv 1) rfl) (zc7 (zab zaw (zab zaw zaf))) rfl) (zae (zak (zg7 zmp (zah (zar O_claim_of (hr.mono (by decide)) (zab (pv 0) (zab (pv 1) zaf))) rfl) zan (nomark _)))) zam)
   (zae (zak zmo)))))),?_⟩
  walk_at "rd2"
  refine fget hp C.cl C.n1 (zbi ..) ⟨rfl,?_⟩;simp only [V.str.injEq,zk6];by_cases h0:kn x=0
  ·rw [if_pos h0];refine fget hp C.cl C.n2 (zho ..) (fget hC.case CC.cl CC.n3 (zi5 ..) ⟨_,rfl,_,zd1 hC.nums _,?_⟩);have e:RgCase.clashes c x=(if lineClaim x∈(absOf c).nums then some (V.int ((absOf c).nums.idxOf (lineClaim x):Nat)) else none).isSome:=by
    cases x with
    | claim n=>
     rw [zkd];show decide (n∈RgCase.claims c)=(if n∈RgCase.claims c then some _ else none).isSome
     by_cases q:n∈RgCase.claims c <;> simp [q]
    | _=>simp [kn] at h0
   rw [←e];exact k H (Same.refl H)
  rw [if_neg h0];refine fget hp C.cl C.n1 (zbi ..) ⟨rfl,?_⟩;simp only [V.str.injEq,zrw];by_cases h1:kn x=1
  ·rw [if_pos h1];refine fget hp C.cl C.n3 (zhn ..) (fget hC.case CC.cl CC.n5 (zgd ..) ⟨_,rfl,_,zd1 hC.wits _,?_⟩);have e:RgCase.clashes c x=(if lineWho x∈(absOf c).wits then some (V.int ((absOf c).wits.idxOf (lineWho x):Nat)) else none).isSome:=by
    cases x with
    | weight n k=>
     rw [zn4];show decide (n∈RgCase.witnesses c)=(if n∈RgCase.witnesses c then some _ else none).isSome
     by_cases q:n∈RgCase.witnesses c <;> simp [q]
    | _=>simp [kn] at h1
   rw [←e];exact k H (Same.refl H)
  rw [if_neg h1];refine fget hp C.cl C.n1 (zbi ..) ⟨by decide,fun t ht=>⟨_,.inr (SqT.of zaa),rfl,rfl,?_⟩⟩
  have S1:Same H (upd H t (.tup [V.str (Str.ofString "says"),V.str (Str.ofString "denies")])):=Same.new ht;generalize upd H t (.tup [V.str (Str.ofString "says"),V.str (Str.ofString "denies")])=H1 at S1
  have hC1:=hC.same S1;have hp1:=S1 _ _ hp;have hL1:=hL.same S1;rw [if_neg Bool.false_ne_true,kd_word];simp only [decide_eq_true_eq];by_cases h2:kn x=2
  ·rw [if_pos h2];have hn:=zfe hst (.inl h2);refine fget hC1.case CC.cl CC.n5 (zgd ..) ⟨_,rfl,.inl ⟨_,.inl hC1.wits⟩,fget hp1 C.cl C.n3 (zhn ..) ⟨_,zd1 hC1.wits _,?_⟩⟩;refine ⟨L,absOf c,p,l,ps,x,rfl,hC1,hL1,hn,?_,?_,?_⟩
   ·rw [za9];exact Nat.le_refl _
   ·rw [za9];omega
   have hcl:=zhd hn;dsimp only;refine ⟨_,rfl,fget (hC1.claim hcl) CM.cl CM.n2 (zi2 ..) ⟨_,rfl,?_⟩⟩;by_cases hw:lineWho x∈(absOf c).wits
   ·rw [if_pos hw];refine .inl ⟨_,DGet.k (k:=Sum.inl ((absOf c).wits.idxOf (lineWho x):Int)) (hC1.words hcl),?_⟩;rw [zqi];have e:RgCase.clashes c x=decide (∃ y∈(claimA c (lineClaim x)).words,y.1=(absOf c).wits.idxOf (lineWho x)):=by
     cases x with
     | word s a n=>
      rw [zh2];have hw':a∈RgCase.witnesses c:=hw;by_cases q:∃ y∈(claimA c n).words,y.1=(RgCase.witnesses c).idxOf a
      ·rw [decide_eq_true ⟨hw',q⟩];exact (decide_eq_true q).symm
      ·rw [decide_eq_false fun z=>q z.2];exact (decide_eq_false q).symm
     | _=>simp [kn] at h2
    rw [←e];exact k _ S1
   ·rw [if_neg hw];refine .inr ⟨rfl,⟨_,hC1.words hcl⟩,?_⟩;have e:RgCase.clashes c x=false:=by
     cases x with
     | word s a n=>
      rw [zh2];exact decide_eq_false fun z=>hw z.1
     | _=>simp [kn] at h2
    rw [←e];exact k _ S1
  rw [if_neg h2];refine fget hp1 C.cl C.n1 (zbi ..) ⟨by decide,fun t ht=>⟨_,.inr (SqT.of zaa),rfl,rfl,?_⟩⟩
  have S2:Same H (upd H1 t (.tup [V.str (Str.ofString "seen"),V.str (Str.ofString "unseen")])):=S1.trans (Same.new ht);generalize upd H1 t (.tup [V.str (Str.ofString "seen"),V.str (Str.ofString "unseen")])=H2 at S2
  have hC2:=hC.same S2;have hL2:=hL.same S2;rw [if_neg Bool.false_ne_true,kd_seen];simp only [decide_eq_true_eq];by_cases h3:kn x=3
  ·rw [if_pos h3];have hn:=zfe hst (.inr (.inl h3));refine ⟨L,absOf c,p,l,ps,x,rfl,hC2,hL2,hn,?_,?_,?_⟩
   ·rw [za9];exact Nat.le_refl _
   ·rw [za9];omega
   have hcl:=zhd hn;dsimp only;refine ⟨_,rfl,fget (hC2.claim hcl) CM.cl CM.n1 (zl9 ..) ⟨rfl,?_⟩⟩;have e:RgCase.clashes c x=!decide (V.int ((claimA c (lineClaim x)).known:Nat)=V.int 0):=by
    cases x with
    | seen s n=>
     rw [zs9];show decide ((claimA c n).known≠0)=!decide (V.int ((claimA c n).known:Nat)=V.int 0);by_cases q:(claimA c n).known=0
     ·simp [q]
     ·have:¬ V.int ((claimA c n).known:Nat)=V.int 0:=fun z=>q (by have:=V.int.inj z;omega)
      rw [decide_eq_false this,decide_eq_true q];rfl
    | _=>simp [kn] at h3
   rw [←e];exact k _ S2
  ·rw [if_neg h3];have e:RgCase.clashes c x=false:=by
    cases x <;> first | rfl | (simp [kn] at h0 h1 h2 h3)
   rw [←e];exact k _ S2
def ze3 (CL:Addr)(cd:Cds):Sp:=fun vs H Q _=>∃ (L:Lay) (c:Case) (p l:Addr) (ps:List Addr) (x:Line),vs=[.ref (L.pl .case),.ref p]∧Cells cd H L (absOf c)∧LineObj CL H p x l ps∧Valid c∧
 ∀ H',Same H H'→Q (.bl (RgCase.tooMany c x)) H'
abbrev zcz:Stmt:=top 56
theorem zmk:FnScope ["case","line"] ["case","line"] (defScope zcz):=⟨rfl,rfl,rfl,by decide +kernel,rfl,by decide +kernel,by decide +kernel⟩
theorem zm7:BindOk "is_too_much" "is_too_much" zcz ["case","line"]:=fun _ _ _ _ _ _=>ls2 fun _ _=>rfl
theorem zmr (D:DefAt K mg "is_too_much" zcz)(T:TxtR mg)(C:ClsLine K ad.cLine)(CC:ClsCase K cd.cCase):
  Own P w K mg base "is_too_much" 1 ["case","line"] (ze3 ad.cLine cd):=by
 refine za5 D zmk zm7 (fun vs H Q E h=>?_) (fun f cdv A outer s H vs Q E hr h=>?_)
 ·obtain ⟨L,c,p,l,ps,x,rfl,_⟩:=h;rfl
 ·obtain ⟨L,c,p,l,ps,x,rfl,hC,hL,hv,k⟩:=h;have hu:=zf8 hr;obtain ⟨dx,hp⟩:=hL.at_;rw [zvu hv] at k;refine ⟨_,(zad (zav (zai zcd (zah (pv 0) rfl) (zal T.g_MOST_LINES) (nomark _)) (zae (zak zmo)) zam)
   (zad (zav (zai zcd (zah (pv 1) rfl) zaw (nomark _)) (zae (zak (zg7 zcd (zao zap (by rfl) T.b_len PySem.boot_len (zab (zah (pv 0) rfl) zaf)) (zal T.g_MOST_CLAIMS) (nomark _)))) zam)
   (zad (zav (zai zbl (zah (pv 1) rfl) (zc7 (zab zaw (zab zaw (zab zaw zaf)))) rfl) (zae (zak (pe_and (zu2 (zir hu (zah (pv 1) rfl) (zah (pv 0) rfl)) rfl) (pe_one (zg7 zcd (zao zap (by rfl) T.b_len PySem.boot_len (zab (zah (pv 0) rfl) zaf)) (zal T.g_MOST_WITNESSES) (nomark _)))))) zam)
   (zae (zak zmo))))),?_⟩
  walk_at "rd2"
  refine fget hC.case CC.cl CC.n1 (zge ..) ⟨rfl,?_⟩;simp only [V.int.injEq];by_cases hl:c.length=512
  ·rw [if_pos (by show (c.length:Int)=512;omega)]
   rw [decide_eq_true hl,Bool.true_or] at k;exact k H (Same.refl H)
  rw [if_neg (by show ¬ (c.length:Int)=512;omega)]
  rw [decide_eq_false hl,Bool.false_or] at k;refine fget hp C.cl C.n1 (zbi ..) ⟨rfl,?_⟩;simp only [V.str.injEq,zk6];by_cases h0:kn x=0
  ·rw [if_pos h0];refine fget hC.case CC.cl CC.n2 (zdn ..) ⟨_,lenL hC.claims,?_⟩;have e:fullA c x=decide (((refs (fun i=>L.pl (.claim i)) (absOf c).claims.length).length:Int)=64):=by
    rw [zci,za9];cases x with
    | claim n=>
     show decide ((RgCase.claims c).length=64)=_;by_cases q:(RgCase.claims c).length=64
     ·rw [decide_eq_true q,q];rfl
     ·rw [decide_eq_false q,decide_eq_false];omega
    | _=>simp [kn] at h0
   rw [←e];exact k H (Same.refl H)
  rw [if_neg h0];refine fget hp C.cl C.n1 (zbi ..) ⟨by decide,fun t ht=>⟨_,.inr (SqT.of zaa),rfl,rfl,?_⟩⟩
  have S1:Same H (upd H t (.tup [V.str (Str.ofString "weight"),V.str (Str.ofString "says"),V.str (Str.ofString "denies")])):=Same.new ht;generalize upd H t (.tup [V.str (Str.ofString "weight"),V.str (Str.ofString "says"),V.str (Str.ofString "denies")])=H1 at S1
  have hC1:=hC.same S1;have hp1:=S1 _ _ hp;rw [if_neg Bool.false_ne_true,kd_wit];simp only [decide_eq_true_eq];by_cases h1:kn x=1∨kn x=2
  ·rw [if_pos h1];have e:fullA c x=decide (lineWho x∉RgCase.witnesses c∧(RgCase.witnesses c).length=8):=by
    cases x <;> first | rfl | (simp [kn] at h1)
   refine fget hp1 C.cl C.n3 (zhn ..) (fget hC1.case CC.cl CC.n5 (zgd ..) ⟨_,rfl,_,zd1 hC1.wits _,?_⟩);have hwl:(absOf c).wits=RgCase.witnesses c:=rfl;by_cases hw:lineWho x∈RgCase.witnesses c
   ·rw [if_pos (show lineWho x∈(absOf c).wits from hw),if_neg (by simp)]
    rw [e,decide_eq_false fun z=>z.1 hw] at k;exact k _ S1
   ·rw [if_neg (show ¬ lineWho x∈(absOf c).wits from hw),if_pos (by rfl)]
    refine fget hC1.case CC.cl CC.n4 (zez ..) ⟨_,lenL hC1.weights,?_⟩;have e2:fullA c x=decide ((((absOf c).weights.map fun (w:Nat)=>V.int w).length:Int)=8):=by
     rw [e,List.length_map];have hlw:(absOf c).weights.length=(RgCase.witnesses c).length:=List.length_map _;rw [hlw];by_cases q:(RgCase.witnesses c).length=8
     ·rw [decide_eq_true ⟨hw,q⟩,q];rfl
     ·rw [decide_eq_false fun z=>q z.2,decide_eq_false];omega
    rw [←e2];exact k _ S1
  ·rw [if_neg h1];have e:fullA c x=false:=by
    cases x <;> first | rfl | (simp [kn] at h0 h1)
   rw [←e];exact k _ S1
def zdw (CL:Addr)(cd:Cds):Sp:=fun vs H Q _=>∃ (L:Lay) (c:Case),Cells cd H L (absOf c)∧Valid c∧((vs=[.ref (L.pl .case),.non]∧∀ H',Same H H'→Q (.int 1) H') ∨
 ∃ (p l:Addr) (ps:List Addr) (x:Line),vs=[.ref (L.pl .case),.ref p]∧LineObj CL H p x l ps∧x.ok=true∧∀ H',Same H H'→Q (.int (RgCase.wrongOf c x:Nat)) H')
abbrev zb5:Stmt:=top 57
theorem zkh:FnScope ["case","line"] ["case","line"] (defScope zb5):=⟨rfl,rfl,rfl,by decide +kernel,rfl,by decide +kernel,by decide +kernel⟩
theorem zku:BindOk "what_is_wrong" "what_is_wrong" zb5 ["case","line"]:=fun _ _ _ _ _ _=>ls2 fun _ _=>rfl
theorem zkp (D:DefAt K mg "what_is_wrong" zb5)(T:TxtR mg)(O_can_stand:Own P w K mg base "can_stand" 1 ["case","line"] (zgs ad.cLine cd))(O_clashes:Own P w K mg base "clashes" 2 ["case","line"] (zjd ad.cLine cd))(O_is_too_much:Own P w K mg base "is_too_much" 1 ["case","line"] (ze3 ad.cLine cd)):
  Own P w K mg base "what_is_wrong" 3 ["case","line"] (zdw ad.cLine cd):=by
 refine za5 D zkh zku (fun vs H Q E h=>?_) (fun f cdv A outer s H vs Q E hr h=>?_)
 ·obtain ⟨L,c,_,_,⟨rfl,_⟩ | ⟨p,l,ps,x,rfl,_⟩⟩:=h
  ·rfl
  ·rfl
 ·refine ⟨_,(zad (zav (zai op_isN (pv 1) zno (nomark _)) (zae (zak (zal T.g_NOT_FORMED))) zam)
   (zad (zav (zq7 (zev (zar O_can_stand (hr.mono (by decide)) (zab (pv 0) (zab (pv 1) zaf))))) (zae (zak (zal T.g_CANNOT_STAND))) zam)
   (zad (zav (zev (zar O_clashes (hr.mono (by decide)) (zab (pv 0) (zab (pv 1) zaf)))) (zae (zak (zal T.g_CLASHES))) zam)
   (zad (zav (zev (zar O_is_too_much (hr.mono (by decide)) (zab (pv 0) (zab (pv 1) zaf)))) (zae (zak (zal T.g_TOO_MUCH))) zam)
   (zae (zak (zal T.g_NOTHING_WRONG))))))),?_⟩
  obtain ⟨L,c,hC,hv,⟨rfl,k⟩ | ⟨p,l,ps,x,rfl,hL,hok,k⟩⟩:=h
  ·walk_at "rd2"
   exact k H (Same.refl H)
  ·walk_at "rd2"
   rw [if_neg (by intro z;cases z)]
   refine ⟨L,c,p,l,ps,x,rfl,hC,hL,hok,fun H1 S1=>⟨_,rfl,?_⟩⟩;have hC1:=hC.same S1;have hL1:=hL.same S1;unfold RgCase.wrongOf at k;by_cases h1:RgCase.stands c x=false
   ·rw [if_pos h1] at k;rw [if_pos h1];exact k _ S1
   rw [if_neg h1] at k;have h1':RgCase.stands c x=true:=by simpa using h1
   rw [if_neg h1];refine ⟨L,c,p,l,ps,x,rfl,hC1,hL1,hv,h1',fun H2 S2=>⟨_,rfl,?_⟩⟩;have hC2:=hC1.same S2;have hL2:=hL1.same S2;by_cases h2:RgCase.clashes c x=true
   ·rw [if_pos h2] at k ⊢;exact k _ (S1.trans S2)
   rw [if_neg h2] at k ⊢;refine ⟨L,c,p,l,ps,x,rfl,hC2,hL2,hv,fun H3 S3=>⟨_,rfl,?_⟩⟩;by_cases h3:RgCase.tooMany c x=true
   ·rw [if_pos h3] at k ⊢;exact k _ ((S1.trans S2).trans S3)
   ·rw [if_neg h3] at k ⊢;exact k _ ((S1.trans S2).trans S3)
end
end
section
open PySem PySem.Spec PyProof.Rows L2
open RgCase (Bytes ascii nameOk claimName cutAt Line Cond Name Case)
theorem zsg (a b:Nat):Builtin.bitOr (a:Int) (b:Int)=((a ||| b:Nat):Int):=by
 have e:∀ n:Nat,Builtin.bitNot (n:Int)=-(n:Int) - 1:=fun n=>by unfold Builtin.bitNot;omega
 unfold Builtin.bitOr;rw [e,e,bitAnd_nn (by omega) (by omega)]
 have e2:∀ n:Nat,(Builtin.bitNot (-(n:Int) - 1)).toNat=n:=fun n=>by unfold Builtin.bitNot;omega
 rw [e2,e2];unfold Builtin.bitNot;omega
theorem zjt (a b:Nat):Builtin.bitAnd (a:Int) (b:Int)=((a &&& b:Nat):Int):=by
 rw [bitAnd_pp (by omega) (by omega)]
 simp
theorem zon {t1 t2:TS}{D:Ends}{σ:L2.St}{H:Hp}(N:L2.St→Hp→Prop)(h2:∀ σ' H',N σ' H'→t2 D σ' H')(h1:∀ R:L2.St→Hp→Prop,(∀ σ' H',N σ' H'→R σ' H')→t1 {D with nx:=R} σ H):tSeq t1 t2 D σ H:=h1 _ h2
theorem zfk {H1 H2:Hp}{p dx C:Addr}(np:H1 p=none)(nd:H1 dx=none)(hB:But p (upd (upd H1 dx (.own p)) p (.ins C dx [])) H2):Same H1 H2:=fun q o e=>
 hB q o (by rw [zac (zag e np),zac (zag e nd)];exact e) (zag e np)
theorem zb1 {H1:Hp}{p dx C q:Addr}(h:upd (upd H1 dx (.own p)) p (.ins C dx []) q=none):H1 q=none:=by
 have n1:q≠p:=fun e=>by rw [e,zaa] at h;cases h
 rw [zac n1] at h;have n2:q≠dx:=fun e=>by rw [e,zaa] at h;cases h
 rw [zac n2] at h;exact h
section
variable {P:Program}{w:World}{K:PySem.W.Frag}{mg:Str→Option Value}{base:Heap}{ad:Ads}{cd:Cds}
theorem Rep.cl {H0 H:Hp}{L:Lay}{A:Abs}(R:Rep cd H0 H L A):Cells cd H L A:=R.cells
theorem small {n:Nat}(h:n≤1000):n<sizeLine:=by rw [sizeLine_eq];omega
def ze6 (cd:Cds):Sp:=fun vs H Q _=>∃ (H0:Hp) (L:Lay) (A:Abs) (n:Name),vs=[.ref (L.pl .case),.str (toS n)]∧Rep cd H0 H L A∧n∉A.nums∧A.claims.length=A.nums.length∧A.nums.length≤1000∧
 ∀ H' L',L'.pl .case=L.pl .case→Rep cd H0 H' L' {A with nums:=A.nums++[n],claims:=A.claims++[⟨0,[],[]⟩]}→Q .non H'
abbrev zc1:Stmt:=top 58
theorem zml:FnScope ["case","name"] ["case","name"] (defScope zc1):=⟨rfl,rfl,rfl,by decide +kernel,rfl,by decide +kernel,by decide +kernel⟩
theorem znb:BindOk "enter_claim" "enter_claim" zc1 ["case","name"]:=fun _ _ _ _ _ _=>ls2 fun _ _=>rfl
theorem zmv (D:DefAt K mg "enter_claim" zc1)(T:TxtR mg)(CC:ClsCase K cd.cCase)(O_Claim:OwnC P w K mg base "Claim" cd.cClaim 1 ["self"] (zfx cd)):Own P w K mg base "enter_claim" 3 ["case","name"] (ze6 cd):=by
 refine za5 D zml znb (fun vs H Q E h=>?_) (fun f cdv A outer s H vs Q E hr h=>?_)
 ·obtain ⟨H0,L,A,n,rfl,_⟩:=h;rfl
 ·obtain ⟨H0,L,A,n,rfl,R,hn,hcl,hb,k⟩:=h;have hu:=zf8 hr;refine ⟨_,(zad (zlo hu (zah (pv 0) rfl) (pv 1) (zao zap (by rfl) T.b_len PySem.boot_len (zab (zah (pv 0) rfl) zaf)) rfl)
   (zae (zcr (zox PySem.F.plainAttrs_list PySem.F.slot_list_append PySem.F.type_list_append zdu (zah (pv 0) rfl) (zab (zf2 O_Claim (hr.mono (by decide))) zaf))))),?_⟩
  walk_at "rd2"
  refine fget R.cl.case CC.cl CC.n2 (zdn ..) ⟨_,lenL R.cl.claims,fget R.cl.case CC.cl CC.n3 (zi5 ..) ⟨_,rfl,_,DPut.k (k:=Sum.inr (toS n)) R.cl.nums (by rw [zhr];exact small hb),?_⟩⟩
  have e1:putK (dictOf (fun i=>V.int i) A.nums) (Sum.inr (toS n)) (V.int ((refs (fun i=>L.pl (.claim i)) A.claims.length).length:Nat))=dictOf (fun i=>V.int i) (A.nums++[n]):=by
   rw [zci,hcl];exact zuv (f:=fun i=>V.int i) hn
  rw [e1];have R1:=R.num n;generalize upd H (L.pl .nums) (.dK (dictOf (fun i=>V.int i) (A.nums++[n])))=H1 at R1
  refine fget R1.cl.case CC.cl CC.n2 (zdn ..) ⟨.inl ⟨rfl,_,SqL.of R1.cl.claims⟩,fun p dx np nd ndp=>⟨p,dx,rfl,zaa,fun H2 wd rl h1 h2 h3 n1 n2 hB=>⟨rfl,?_⟩⟩⟩;have S2:=zfk np nd hB;refine ⟨_,rfl,_,S2 _ _ R1.cl.claims,by rw [zci];exact small (by show A.claims.length≤1000;omega),?_⟩
  exact k _ _ (by simp [Lay.put]) (R1.claim S2 np (zb1 n1) (zb1 n2) h1 h2 h3 (by show A.claims.length<(A.nums++[n]).length;rw [List.length_append,hcl];simp))
def zco (cd:Cds):Sp:=fun vs H Q _=>∃ (H0:Hp) (L:Lay) (A:Abs) (a:Name) (k:Nat),vs=[.ref (L.pl .case),.str (toS a),.int k]∧Rep cd H0 H L A∧A.weights.length=A.wits.length∧A.wits.length≤1000∧
 ∀ H',Rep cd H0 H' L (addWit A a k)→Q (.int ((addWit A a k).wits.idxOf a:Nat)) H'
abbrev zb7:Stmt:=top 59
theorem zkj:FnScope ["case","name","weight"] ["case","name","weight"] (defScope zb7):=⟨rfl,rfl,rfl,by decide +kernel,rfl,by decide +kernel,by decide +kernel⟩
theorem zkw:BindOk "enter_witness" "enter_witness" zb7 ["case","name","weight"]:=fun _ _ _ _ _ _=>ls3 fun _ _ _=>rfl
theorem zkt (D:DefAt K mg "enter_witness" zb7)(T:TxtR mg)(CC:ClsCase K cd.cCase):Own P w K mg base "enter_witness" 1 ["case","name","weight"] (zco cd):=by
 refine za5 D zkj zkw (fun vs H Q E h=>?_) (fun f cdv A outer s H vs Q E hr h=>?_)
 ·obtain ⟨H0,L,A,n,k,rfl,_⟩:=h;rfl
 ·obtain ⟨H0,L,A,n,k,rfl,R,hwl,hb,kk⟩:=h;have hu:=zf8 hr;refine ⟨_,(zad (zav (pt_cmp (zir hu (pv 1) (zah (pv 0) rfl)) rfl) (zad (zlo hu (zah (pv 0) rfl) (pv 1) (zao zap (by rfl) T.b_len PySem.boot_len (zab (zah (pv 0) rfl) zaf)) rfl)
   (zae (zcr (zox PySem.F.plainAttrs_list PySem.F.slot_list_append PySem.F.type_list_append zdu (zah (pv 0) rfl) (zab (pv 2) zaf))))) zam)
   (zae (zak (zlq hu (zah (pv 0) rfl) (pv 1) (fun _ _=>rfl))))),?_⟩
  refine zon (fun σ' H'=>σ'=[some (.ref (L.pl .case)),some (.str (toS n)),some (.int k)]∧Rep cd H0 H' L (addWit A n k)) ?_ ?_
  ·rintro σ' H' ⟨rfl,R'⟩;have hin:n∈(addWit A n k).wits:=by
    unfold addWit;by_cases q:n∈A.wits
    ·rw [if_pos q];exact q
    ·rw [if_neg q];simp
   walk_at "rd2"
   exact fget R'.cl.case CC.cl CC.n5 (zgd ..) ⟨_,rfl,_,zps R'.cl.wits hin,kk _ R'⟩
  ·intro RR hRR;walk_at "rd2"
   refine fget R.cl.case CC.cl CC.n5 (zgd ..) ⟨_,rfl,_,zd1 R.cl.wits _,?_⟩;by_cases q:n∈A.wits
   ·rw [if_pos q,if_neg (by simp)]
    refine hRR _ _ ⟨rfl,?_⟩;unfold addWit;rw [if_pos q];exact R
   ·rw [if_neg q,if_pos (show (none:Option V).isSome=false from rfl)]
    refine fget R.cl.case CC.cl CC.n4 (zez ..) ⟨_,lenL R.cl.weights,fget R.cl.case CC.cl CC.n5 (zgd ..) ⟨_,rfl,_,DPut.k (k:=Sum.inr (toS n)) R.cl.wits (by rw [zhr];exact small hb),?_⟩⟩
    have e1:putK (dictOf (fun i=>V.int i) A.wits) (Sum.inr (toS n)) (V.int ((A.weights.map fun (w:Nat)=>V.int w).length:Nat))=dictOf (fun i=>V.int i) (A.wits++[n]):=by
     rw [List.length_map,hwl];exact zuv (f:=fun i=>V.int i) q
    rw [e1];have R1:=R.wit n;generalize upd H (L.pl .wits) (.dK (dictOf (fun i=>V.int i) (A.wits++[n])))=H1 at R1
    refine fget R1.cl.case CC.cl CC.n4 (zez ..) ⟨.inl ⟨rfl,_,SqL.of R1.cl.weights⟩,_,rfl,_,R1.cl.weights,by rw [List.length_map];exact small (by show A.weights.length≤1000;omega),?_⟩
    refine hRR _ _ ⟨rfl,?_⟩;unfold addWit;rw [if_neg q];exact R1.weight k
def ze5 (CL:Addr)(cd:Cds):Sp:=fun vs H Q _=>∃ (H0:Hp) (L:Lay) (A:Abs) (p l:Addr) (ps:List Addr) (sd:Bool) (a n:Name) (q:ClaimA),vs=[.ref (L.pl .case),.ref p]∧Rep cd H0 H L A∧LineObj CL H0 p (.word sd a n) l ps∧n∈A.nums∧
 A.claims.length=A.nums.length∧A.nums.length≤1000∧A.weights.length=A.wits.length∧A.wits.length≤1000∧A.claims[A.nums.idxOf n]? = some q∧q.words.length≤1000∧(∀ x∈q.words,x.1≠(addWit A a 1).wits.idxOf a)∧
 ∀ H',Rep cd H0 H' L (enterB A (.word sd a n))→Q .non H'
abbrev zc0:Stmt:=top 60
theorem zfa:FnScope ["case","line","claim","witness"] ["case","line"] (defScope zc0):=⟨rfl,rfl,rfl,by decide +kernel,rfl,by decide +kernel,by decide +kernel⟩
theorem zna:BindOk "enter_words" "enter_words" zc0 ["case","line"]:=fun _ _ _ _ _ _=>ls2 fun _ _=>rfl
theorem zmu (D:DefAt K mg "enter_words" zc0)(T:TxtR mg)(C:ClsLine K ad.cLine)(CC:ClsCase K cd.cCase)(CM:ClsClaim K cd.cClaim)(O_claim_of:Own P w K mg base "claim_of" 1 ["case","line"] (zc8 ad.cLine cd))(O_enter_witness:Own P w K mg base "enter_witness" 1 ["case","name","weight"] (zco cd)):Own P w K mg base "enter_words" 2 ["case","line"] (ze5 ad.cLine cd):=by
 refine za5 D zfa zna (fun vs H Q E h=>?_) (fun f cdv A outer s H vs Q E hr h=>?_)
 ·obtain ⟨H0,L,A,p,l,ps,sd,a,n,q,rfl,_⟩:=h;rfl
 ·obtain ⟨H0,L,A,p,l,ps,sd,a,n,q,rfl,R,hL,hn,hcl,hb,hwl,hb2,hq,hql,hnew,k⟩:=h;have hu:=zf8 hr;have hLH:=hL.same R.same;obtain ⟨dx,hp⟩:=hL.at_;refine ⟨_,(zad (zat (i:=2) zfa.nd rfl (Or.inl rfl) (zar O_claim_of (hr.mono (by decide)) (zab (pv 0) (zab (pv 1) zaf))))
   (zad (zat (i:=3) zfa.nd rfl (Or.inl rfl) (zar O_enter_witness (hr.mono (by decide)) (zab (pv 0) (zab (zah (pv 1) rfl) (zab zan zaf)))))
   (zae (zlo hu (zah (pv 2) rfl) (pv 3) (zcj (zai zcd (zah (pv 1) rfl) zaw (nomark _)) (zal T.g_PROVED) (zal T.g_REFUTED)) rfl)))),?_⟩
  walk_at "rd2"
  refine ⟨L,A,p,l,ps,_,rfl,R.cl,hLH,hn,by omega,by omega,fget (R.same _ _ hp) C.cl C.n3 (zhn ..) ?_⟩
  refine ⟨H0,L,A,a,1,rfl,R,hwl,hb2,fun H1 R1=>?_⟩;have hk:kn (Line.word sd a n)=2:=rfl;have hr3:(addWit A a 1).claims=A.claims:=(zdg A a 1).2.2.1;have hr2:(addWit A a 1).nums=A.nums:=(zdg A a 1).2.1;have hq1:(addWit A a 1).claims[A.nums.idxOf n]? = some q:=by rw [hr3];exact hq
  have hnone:valV (wordsK q) (Sum.inl ((addWit A a 1).wits.idxOf a:Int))=none:=by
   have:=zqi q ((addWit A a 1).wits.idxOf a);rw [decide_eq_false (by rintro ⟨x,hx,e⟩;exact hnew x hx e)] at this
   cases e:valV (wordsK q) (Sum.inl ((addWit A a 1).wits.idxOf a:Int)) with
   | none=>rfl
   | some v=>rw [e] at this;cases this
  have fin:∀ b:Nat,b=b12 sd→Rep cd H0 (upd H1 (L.pl (.words (A.nums.idxOf n))) (.dK (putK (wordsK q) (Sum.inl ((addWit A a 1).wits.idxOf a:Int)) (.int b)))) L (enterB A (.word sd a n)):=fun b e=>by
   have:=R1.word hq1 ((addWit A a 1).wits.idxOf a,b);rw [zil _ hnone];rw [e] at this ⊢;have e2:enterB A (.word sd a n)={addWit A a 1 with claims:=(addWit A a 1).claims.modify (A.nums.idxOf n) fun q=>{q with words:=q.words++[((addWit A a 1).wits.idxOf a,b12 sd)]}}:=by
    refine zhh rfl rfl ?_ rfl rfl rfl rfl;show (addWit A a 1).claims.modify ((addWit A a 1).nums.idxOf n) _=_;rw [hr2]
   rw [e2];exact this
  refine fget (R1.same _ _ hp) C.cl C.n1 (zbi ..) ⟨rfl,?_⟩;simp only [V.str.injEq,kd_says hk];have hput:=fun (b:Int)=>DPut.k (k:=Sum.inl ((addWit A a 1).wits.idxOf a:Int)) (v:=V.int b) (R1.cl.words hq1) (by unfold wordsK;rw [List.length_map];exact small hql)
  cases sd with
  | true=>
   rw [if_pos (show kb (Line.word true a n)=true from rfl)]
   exact ⟨_,rfl,fget (R1.cl.claim hq1) CM.cl CM.n2 (zi2 ..) ⟨_,rfl,_,hput 1,k _ (fin 1 rfl)⟩⟩
  | false=>
   rw [if_neg (show ¬ kb (Line.word false a n)=true from by intro z;cases z)]
   exact ⟨_,rfl,fget (R1.cl.claim hq1) CM.cl CM.n2 (zi2 ..) ⟨_,rfl,_,hput 2,k _ (fin 2 rfl)⟩⟩
def nbP (H:Hp)(A:Abs)(x:Line)(p:Addr)(L:Lay)(i:Nat)(σ:L2.St)(H':Hp):Prop:=(∃ v3 v4:Option V,σ=[some (.ref (L.pl .case)),some (.ref p),some (.int (needN (RgCase.numbered A.nums ((condsOf x).take i)):Nat)),v3,v4])∧Same H H'
def zeq (CL:Addr)(cd:Cds):Sp:=fun vs H Q _=>∃ (L:Lay) (A:Abs) (p l:Addr) (ps:List Addr) (x:Line),vs=[.ref (L.pl .case),.ref p]∧Cells cd H L A∧LineObj CL H p x l ps∧(∀ y∈condsOf x,y.claim∈A.nums∧y.value≤3)∧A.nums.length≤1000∧
 ∀ H',Same H H'→Q (.int (needN (RgCase.numbered A.nums (condsOf x)):Nat)) H'
theorem need_snoc (ns:List Name)(cs:List Cond)(y:Cond):needN (RgCase.numbered ns (cs++[y]))=needN (RgCase.numbered ns cs) ||| bitOf y.value (ns.idxOf y.claim):=by
 unfold needN RgCase.numbered;rw [List.map_append,List.foldl_append];rfl
abbrev zed:Stmt:=top 61
theorem zdp:FnScope ["case","line","needed","wanted","name"] ["case","line"] (defScope zed):=⟨rfl,rfl,rfl,by decide +kernel,rfl,by decide +kernel,by decide +kernel⟩
theorem zsn:BindOk "needed_by" "needed_by" zed ["case","line"]:=fun _ _ _ _ _ _=>ls2 fun _ _=>rfl
theorem zrk (D:DefAt K mg "needed_by" zed)(T:TxtR mg)(C:ClsLine K ad.cLine)(CC:ClsCase K cd.cCase)(O_fact:Own P w K mg base "fact" 1 ["verdict","number"] zok):Own P w K mg base "needed_by" 2 ["case","line"] (zeq ad.cLine cd):=by
 refine za5 D zdp zsn (fun vs H Q E h=>?_) (fun f cdv A outer s H vs Q E hr h=>?_)
 ·obtain ⟨L,A,p,l,ps,x,rfl,_⟩:=h;rfl
 ·obtain ⟨L,A,p,l,ps,x,rfl,hC,hL,hcs,hb,k⟩:=h;have hu:=zf8 hr;obtain ⟨dx,hp⟩:=hL.at_;refine ⟨_,(zad (zat (i:=2) zdp.nd rfl (Or.inl rfl) zan)
   (zad (zim PassesOwn.never rfl (zfb (zah (pv 1) rfl)) (zra rfl (zdm (zbj (i:=3) zdp.nd rfl (Or.inl rfl)) (zdm (zbj (i:=4) zdp.nd rfl (Or.inl rfl)) zlp)))
    (zae (zat (i:=2) zdp.nd rfl (Or.inl rfl) (zc6 op_or (pv 2) (zar O_fact (hr.mono (by decide)) (zab (pv 3) (zab (zlq hu (zah (pv 0) rfl) (pv 4) (fun _ _=>rfl)) zaf)))))))
   (zae (zak (pv 2))))),?_⟩
  walk_at "rd2"
  refine ⟨_,rfl,p,_,_,_,_,rfl,hp,C.cl,C.n5,zpi ..,l,rfl,⟨_,SqL.of hL.conds.lst⟩,zk7 (K:=K) (a:=l) (xs:=ps.map V.ref) (nbP H A x p L) ⟨⟨none,none,rfl⟩,Same.refl H⟩ (fun i σ H' _ ⟨_,S'⟩=>SqL.of (S' _ _ hL.conds.lst)) ?_ ?_⟩
  ·rintro i y σ H' hy ⟨⟨v3,v4,rfl⟩,S'⟩;obtain ⟨q,cq,hq1,hq2,rfl,hq3⟩:=zvi hL.conds hy;have hq4:=S' _ _ hq3;have hC':=hC.same S';have hm:cq∈condsOf x:=by rw [←zcv];exact List.mem_of_getElem? hq2
   obtain ⟨hin,h3⟩:=hcs cq hm;have hi:=List.idxOf_lt_length_of_mem hin;walk_at "rd2"
   refine ⟨_,SqT.of hq4,rfl,_,_,rfl,_,_,rfl,rfl,fget hC'.case CC.cl CC.n3 (zi5 ..) ⟨_,rfl,_,zps hC'.nums hin,?_⟩⟩;have ht:(condsOf x).take (i+1)=(condsOf x).take i++[cq]:=by
    rw [List.take_add_one,←zcv,hq2];rfl
   refine ⟨cq.value,A.nums.idxOf cq.claim,rfl,h3,by omega,_,rfl,⟨some (V.int cq.value),some (V.str (toS cq.claim)),?_⟩,S'⟩
   rw [ht,need_snoc,zsg]
  ·rintro σ H' ⟨⟨v3,v4,rfl⟩,S'⟩;walk_at "rd2"
   have hlen:ps.length=(condsOf x).length:=by rw [←zcv];exact Paired.length hL.conds.tup
   rw [List.length_map,hlen,List.take_length];exact k _ S'
end
end
section
open PySem PySem.Spec PyProof.Rows L2
open RgCase (Bytes ascii nameOk claimName cutAt Line Cond Name Case)
section
variable {P:Program}{w:World}{K:PySem.W.Frag}{mg:Str→Option Value}{base:Heap}{ad:Ads}{cd:Cds}
def zft (CL:Addr)(cd:Cds):Sp:=fun vs H Q _=>∃ (H0:Hp) (L:Lay) (A:Abs) (p l:Addr) (ps:List Addr) (sd:Bool) (n:Name) (cs:List Cond) (q:ClaimA),vs=[.ref (L.pl .case),.ref p]∧Rep cd H0 H L A∧LineObj CL H0 p (.rule sd n cs) l ps∧n∈A.nums∧
 A.claims.length=A.nums.length∧A.nums.length≤1000∧A.claims[A.nums.idxOf n]? = some q∧q.rules.length≤1000∧(∀ y∈cs,y.claim∈A.nums∧y.value≤3)∧
 ∀ H' L',L'.pl .case=L.pl .case→Rep cd H0 H' L' (enterB A (.rule sd n cs))→Q .non H'
abbrev zdr:Stmt:=top 62
theorem zfz:FnScope ["case","line","claim","made"] ["case","line"] (defScope zdr):=⟨rfl,rfl,rfl,by decide +kernel,rfl,by decide +kernel,by decide +kernel⟩
theorem zp4:BindOk "enter_rule" "enter_rule" zdr ["case","line"]:=fun _ _ _ _ _ _=>ls2 fun _ _=>rfl
theorem zo6 (D:DefAt K mg "enter_rule" zdr)(T:TxtR mg)(C:ClsLine K ad.cLine)(CC:ClsCase K cd.cCase)(CM:ClsClaim K cd.cClaim)(O_claim_of:Own P w K mg base "claim_of" 1 ["case","line"] (zc8 ad.cLine cd))(O_Rule:OwnC P w K mg base "Rule" cd.cRule 1 ["self","line_number","made","needed"] (zgu cd))(O_needed_by:Own P w K mg base "needed_by" 2 ["case","line"] (zeq ad.cLine cd)):
  Own P w K mg base "enter_rule" 3 ["case","line"] (zft ad.cLine cd):=by
 refine za5 D zfz zp4 (fun vs H Q E h=>?_) (fun f cdv A outer s H vs Q E hr h=>?_)
 ·obtain ⟨H0,L,A,p,l,ps,sd,n,cs,q,rfl,_⟩:=h;rfl
 ·obtain ⟨H0,L,A,p,l,ps,sd,n,cs,q,rfl,R,hL,hn,hcl,hb,hq,hql,hcs,k⟩:=h;have hu:=zf8 hr;have hLH:=hL.same R.same;obtain ⟨dx,hp⟩:=hL.at_;refine ⟨_,(zad (zat (i:=2) zfz.nd rfl (Or.inl rfl) (zar O_claim_of (hr.mono (by decide)) (zab (pv 0) (zab (pv 1) zaf))))
   (zad (zat (i:=3) zfz.nd rfl (Or.inl rfl) (zcj (zai zcd (zah (pv 1) rfl) zaw (nomark _)) (zal T.g_PROVED) (zal T.g_REFUTED)))
   (zae (zcr (zox PySem.F.plainAttrs_list PySem.F.slot_list_append PySem.F.type_list_append zdu (zah (pv 2) rfl) (zab (pe_newc O_Rule (hr.mono (by decide)) (zab (zah (pv 0) rfl) (zab (pv 3) (zab (zar O_needed_by (hr.mono (by decide)) (zab (pv 0) (zab (pv 1) zaf))) zaf)))) zaf)))))),?_⟩
  refine zon (fun σ' H'=>σ'=[some (.ref (L.pl .case)),some (.ref p),some (.ref (L.pl (.claim (A.nums.idxOf n)))),none]∧H'=H) ?_ ?_
  ·rintro σ' H' ⟨rfl,rfl⟩;refine zon (fun σ' H1=>σ'=[some (.ref (L.pl .case)),some (.ref p),some (.ref (L.pl (.claim (A.nums.idxOf n)))),some (.int (b12 sd:Nat))]∧H1=H') ?_ ?_
   ·rintro σ' H1 ⟨rfl,rfl⟩;walk_at "rd2"
    refine fget (R.cl.claim hq) CM.cl CM.n3 (zsd ..) ⟨.inl ⟨rfl,_,SqL.of (R.cl.rules hq)⟩,fget R.cl.case CC.cl CC.n1 (zge ..) ?_⟩;refine ⟨L,A,p,l,ps,_,rfl,R.cl,hLH,hcs,hb,fun H2 S2 x dx2 nx nd ndx=>?_⟩;refine ⟨x,dx2,⟨A.lines,b12 sd,needN (RgCase.numbered A.nums cs)⟩,rfl,zaa,fun H3 h3 hB=>⟨rfl,?_⟩⟩;have S3:Same H1 H3:=S2.trans (zfk nx nd hB);refine ⟨_,rfl,_,S3 _ _ (R.cl.rules hq),by rw [zci];exact small hql,?_⟩
    exact k _ _ (by simp [Lay.put]) (R.rule S3 (S2.free nx) h3 hq)
   ·intro RR hRR;walk_at "rd2"
    refine fget (R.same _ _ hp) C.cl C.n1 (zbi ..) ⟨rfl,?_⟩;have hk:kn (Line.rule sd n cs)=4:=rfl;simp only [V.str.injEq,kd_for hk];cases sd with
    | true=>
     rw [if_pos (show kb (Line.rule true n cs)=true from rfl)]
     exact hRR _ _ ⟨rfl,rfl⟩
    | false=>
     rw [if_neg (show ¬ kb (Line.rule false n cs)=true from by intro z;cases z)]
     exact hRR _ _ ⟨rfl,rfl⟩
  ·intro RR hRR;walk_at "rd2"
   exact ⟨L,A,p,l,ps,_,rfl,R.cl,hLH,hn,by omega,by omega,hRR _ _ ⟨rfl,rfl⟩⟩
def boatLine (x:Line):Prop:=5≤kn x
def zfv (CL:Addr)(cd:Cds):Sp:=fun vs H Q _=>∃ (H0:Hp) (L:Lay) (A:Abs) (p l:Addr) (ps:List Addr) (x:Line),vs=[.ref (L.pl .case),.ref p]∧Rep cd H0 H L A∧LineObj CL H0 p x l ps∧boatLine x∧
 A.nums.length≤1000∧A.bnames.length≤1000∧(∀ q∈A.boats,q.pens.length≤1000∧q.reds.length≤1000)∧(∀ y∈condsOf x,y.claim∈A.nums∧y.value≤3)∧
 ∀ H' L',L'.pl .case=L.pl .case→Rep cd H0 H' L' (enterB A x)→Q .non H'
abbrev zdt:Stmt:=top 63
theorem zf0:FnScope ["case","line","boat","needed"] ["case","line"] (defScope zdt):=⟨rfl,rfl,rfl,by decide +kernel,rfl,by decide +kernel,by decide +kernel⟩
theorem zp6:BindOk "enter_boat" "enter_boat" zdt ["case","line"]:=fun _ _ _ _ _ _=>ls2 fun _ _=>rfl
theorem zo8 (D:DefAt K mg "enter_boat" zdt)(T:TxtR mg)(C:ClsLine K ad.cLine)(CC:ClsCase K cd.cCase)(CB:ClsBoat K cd.cBoat)(O_Boat:OwnC P w K mg base "Boat" cd.cBoat 1 ["self"] (zes cd))(O_needed_by:Own P w K mg base "needed_by" 2 ["case","line"] (zeq ad.cLine cd)):
  Own P w K mg base "enter_boat" 3 ["case","line"] (zfv ad.cLine cd):=by
 refine za5 D zf0 zp6 (fun vs H Q E h=>?_) (fun f cdv A outer s H vs Q E hr h=>?_)
 ·obtain ⟨H0,L,A,p,l,ps,x,rfl,_⟩:=h;rfl
 ·obtain ⟨H0,L,A,p,l,ps,x,rfl,R,hL,hx,hb,hb2,hbs,hcs,k⟩:=h;have hu:=zf8 hr;obtain ⟨dx,hp⟩:=hL.at_;refine ⟨_,(zad (zat (i:=2) zf0.nd rfl (Or.inl rfl) (pe_dsetd hu (zah (pv 0) rfl) (zah (pv 1) rfl) (zf2 O_Boat (hr.mono (by decide))) ⟨rfl,rfl,rfl,rfl⟩))
   (zad (zat (i:=3) zf0.nd rfl (Or.inl rfl) (zar O_needed_by (hr.mono (by decide)) (zab (pv 0) (zab (pv 1) zaf))))
   (zae (zav (zai zcd (zah (pv 1) rfl) zaw (nomark _)) (zae (zcr (zox PySem.F.plainAttrs_list PySem.F.slot_list_append PySem.F.type_list_append zdu (zah (pv 2) rfl) (zab (zc7 (zab (zah (pv 1) rfl) (zab (pv 3) zaf))) zaf)))) (zae (zcr (zox PySem.F.plainAttrs_list PySem.F.slot_list_append PySem.F.type_list_append zdu (zah (pv 2) rfl) (zab (pv 3) zaf)))))))),?_⟩
  obtain ⟨b,hbw⟩:∃ b,b=lineWho x:=⟨_,rfl⟩;have hin:b∈(addBoat A b).bnames:=by
   unfold addBoat;by_cases q:b∈A.bnames
   ·rw [if_pos q];exact q
   ·rw [if_neg q];simp
  have hrest:=zdv A b;refine zon (fun σ' H'=>∃ L',L'.pl .case=L.pl .case∧σ'=[some (.ref (L.pl .case)),some (.ref p),some (.ref (L'.pl (.boat ((addBoat A b).bnames.idxOf b)))),none]∧Rep cd H0 H' L' (addBoat A b)) ?_ ?_
  ·rintro σ' H1 ⟨L1,hpl,rfl,R1⟩;have hi:=List.idxOf_lt_length_of_mem hin;obtain ⟨q,hq⟩:∃ q,(addBoat A b).boats[(addBoat A b).bnames.idxOf b]? = some q:=⟨_,List.getElem?_eq_getElem (by rw [R1.bn];exact hi)⟩
   have hqs:q.pens.length≤1000∧q.reds.length≤1000:=by
    have hm:=List.mem_of_getElem? hq;unfold addBoat at hm;by_cases z:b∈A.bnames
    ·rw [if_pos z] at hm;exact hbs q hm
    ·rw [if_neg z] at hm;rcases List.mem_append.mp hm with hm | hm
     ·exact hbs q hm
     ·rw [List.mem_singleton.mp hm];exact ⟨by simp,by simp⟩
   walk_at "rd2"
   refine ⟨L1,addBoat A b,p,l,ps,x,by rw [hpl],R1.cl,hL.same R1.same,by rw [hrest.2.1];exact hcs,by rw [hrest.2.1];exact hb,fun H2 S2=>?_⟩
   have R2:=R1.sameR S2;rw [hrest.2.1];refine fget (R2.same _ _ hp) C.cl C.n1 (zbi ..) ⟨rfl,?_⟩;simp only [V.str.injEq,zwm];by_cases h5:kn x=5
   ·rw [if_pos h5];refine fget (R2.cl.boat hq) CB.cl CB.n1 (zvn ..) ⟨.inl ⟨rfl,_,SqL.of (R2.cl.pens hq)⟩,fget (R2.same _ _ hp) C.cl C.n4 (zk5 ..) ⟨by decide,fun t ht=>?_⟩⟩
    have S3:Same H2 (upd H2 t (.tup [.int (lineAmount x:Nat),.int (needN (RgCase.numbered A.nums (condsOf x)):Nat)])):=Same.new ht;refine ⟨_,rfl,_,S3 _ _ (R2.cl.pens hq),by rw [zci];exact small hqs.1,?_⟩
    have R3:=R2.pen (x:=(lineAmount x,needN (RgCase.numbered A.nums (condsOf x)))) S3 ht zaa hq;refine k _ (L1.put (.pen ((addBoat A b).bnames.idxOf b) q.pens.length) t 0) (by rw [←hpl];simp [Lay.put]) ?_
    have e:enterB A x={addBoat A b with boats:=(addBoat A b).boats.modify ((addBoat A b).bnames.idxOf b) fun q=>{q with pens:=q.pens++[(lineAmount x,needN (RgCase.numbered A.nums (condsOf x)))]}}:=by
     subst hbw;cases x with
     | penalty a m cs=>rfl
     | _=>simp [kn] at h5
    rw [e];exact R3
   ·rw [if_neg h5];refine fget (R2.cl.boat hq) CB.cl CB.n2 (zvm ..) ⟨.inl ⟨rfl,_,SqL.of (R2.cl.reds hq)⟩,_,rfl,_,R2.cl.reds hq,by rw [List.length_map];exact small hqs.2,?_⟩
    have R3:=R2.red hq (needN (RgCase.numbered A.nums (condsOf x)));refine k _ _ hpl ?_;have e:enterB A x={addBoat A b with boats:=(addBoat A b).boats.modify ((addBoat A b).bnames.idxOf b) fun q=>{q with reds:=q.reds++[needN (RgCase.numbered A.nums (condsOf x))]}}:=by
     subst hbw;have hx':5≤kn x:=hx;cases x with
     | redress a cs=>rfl
     | penalty a m cs=>exact absurd rfl h5
     | _=>simp [kn] at hx'
    rw [e];exact R3
  ·intro RR hRR;walk_at "rd2"
   refine fget R.cl.case CC.cl CC.n6 (zvk ..) ⟨_,rfl,.inl ⟨_,.inl R.cl.boats⟩,fget (R.same _ _ hp) C.cl C.n3 (zhn ..) fun y dy ny ndy ndyy=>?_⟩;refine ⟨y,dy,rfl,zaa,fun H2 pn rd h1 h2 h3 n1 n2 hne hB=>⟨rfl,?_⟩⟩;have S2:=zfk ny ndy hB;have R2:=R.sameR S2;refine ⟨_,R2.cl.boats,Sum.inr (toS (lineWho x)),rfl,by rw [zhr];exact small hb2,fun v hv=>?_,fun hv=>?_⟩
   ·rw [zie] at hv;rw [←hbw] at hv;by_cases z:b∈A.bnames
    ·rw [if_pos z] at hv;cases hv;have e:addBoat A b=A:=by unfold addBoat;rw [if_pos z]
     exact hRR _ _ ⟨L,rfl,by rw [e],by rw [e];exact R2⟩
    ·rw [if_neg z] at hv;cases hv
   ·rw [zie] at hv;rw [←hbw] at hv ⊢;have z:b∉A.bnames:=fun z=>by rw [if_pos z] at hv;cases hv
    have e:addBoat A b={A with bnames:=A.bnames++[b],boats:=A.boats++[⟨[],[]⟩]}:=by unfold addBoat;rw [if_neg z]
    rw [zil _ (by rw [zie,if_neg z])]
    refine hRR _ _ ⟨_,?_,?_,by rw [e];exact R.boat b S2 ny (zb1 n1) (zb1 n2) hne h1 h2 h3⟩
    ·simp [Lay.put]
    ·rw [e];show _=[_,_,some (V.ref (Lay.pl _ (.boat ((A.bnames++[b]).idxOf b)))),none];rw [List.idxOf_append,if_neg z];have e2:[b].idxOf b+A.bnames.length=A.boats.length:=by rw [R.bn];simp
     rw [e2];simp [Lay.put]
end
end
section
open PySem PySem.Spec PyProof.Rows L2
open RgCase (Bytes ascii nameOk claimName cutAt Line Cond Name Case)
section
variable {P:Program}{w:World}{K:PySem.W.Frag}{mg:Str→Option Value}{base:Heap}{ad:Ads}{cd:Cds}
theorem zaq {t1 t2:TS}{D:Ends}{σ:L2.St}{H:Hp}(N:L2.St→Hp→Prop)(h1:∀ R:L2.St→Hp→Prop,(∀ σ' H',N σ' H'→R σ' H')→t1 {D with nx:=R} σ H)(h2:∀ σ' H',N σ' H'→t2 D σ' H'):tSeq t1 t2 D σ H:=h1 _ h2
theorem zr7 (A:Abs)(x:Line):(enterB A x).lines=A.lines:=by
 cases x with
 | weight a k=>exact (zdg A a k).1
 | word s a n=>exact (zdg A a 1).1
 | penalty b k cs=>exact (zdv A b).1
 | redress b cs=>exact (zdv A b).1
 | _=>rfl
def elN (cd:Cds)(H0:Hp)(L:Lay)(c:Case)(p:Addr)(x:Line)(j:Nat)(σ':L2.St)(H':Hp):Prop:=∃ (v2:Option V) (L':Lay),σ'=[some (.ref (L.pl .case)),some (.ref p),v2]∧L'.pl .case=L.pl .case∧
 Rep cd H0 H' L' (if kn x<j then enterB (absOf c) x else absOf c)
def zfu (CL:Addr)(cd:Cds):Sp:=fun vs H Q _=>∃ (H0:Hp) (L:Lay) (c:Case) (p l:Addr) (ps:List Addr) (x:Line),vs=[.ref (L.pl .case),.ref p]∧Rep cd H0 H L (absOf c)∧Valid c∧LineObj CL H0 p x l ps∧x.ok=true∧RgCase.wrongOf c x=0∧
 ∀ H' L',L'.pl .case=L.pl .case→Rep cd H0 H' L' (absOf (c++[x]))→Q .non H'
abbrev zds:Stmt:=top 64
theorem zih:FnScope ["case","line","claim"] ["case","line"] (defScope zds):=⟨rfl,rfl,rfl,by decide +kernel,rfl,by decide +kernel,by decide +kernel⟩
theorem zp5:BindOk "enter_line" "enter_line" zds ["case","line"]:=fun _ _ _ _ _ _=>ls2 fun _ _=>rfl
theorem zo7 (D:DefAt K mg "enter_line" zds)(T:TxtR mg)(C:ClsLine K ad.cLine)(CC:ClsCase K cd.cCase)(CM:ClsClaim K cd.cClaim)(O_claim_of:Own P w K mg base "claim_of" 1 ["case","line"] (zc8 ad.cLine cd))(O_enter_claim:Own P w K mg base "enter_claim" 3 ["case","name"] (ze6 cd))(O_enter_witness:Own P w K mg base "enter_witness" 1 ["case","name","weight"] (zco cd))(O_enter_words:Own P w K mg base "enter_words" 2 ["case","line"] (ze5 ad.cLine cd))(O_enter_rule:Own P w K mg base "enter_rule" 3 ["case","line"] (zft ad.cLine cd))(O_enter_boat:Own P w K mg base "enter_boat" 3 ["case","line"] (zfv ad.cLine cd)):
  Own P w K mg base "enter_line" 4 ["case","line"] (zfu ad.cLine cd):=by
 refine za5 D zih zp5 (fun vs H Q E h=>?_) (fun f cdv A outer s H vs Q E hr h=>?_)
 ·obtain ⟨H0,L,c,p,l,ps,x,rfl,_⟩:=h;rfl
 ·obtain ⟨H0,L,c,p,l,ps,x,rfl,R,hv,hL,hok,hw0,k⟩:=h;have hu:=zf8 hr;obtain ⟨dx,hp⟩:=hL.at_;obtain ⟨vb1,vb2,vb3⟩:=zbe hv;obtain ⟨hst,hcl,htm⟩:=zb2 hw0;have hcn:(absOf c).claims.length=(absOf c).nums.length:=za9 c;have hnl:(absOf c).nums.length≤1000:=by show (RgCase.claims c).length≤1000;omega
  have hwl:(absOf c).weights.length=(absOf c).wits.length:=List.length_map _;have hwb:(absOf c).wits.length≤1000:=by show (RgCase.witnesses c).length≤1000;omega
  have hconds:∀ y∈condsOf x,y.claim∈(absOf c).nums∧y.value≤3:=fun y hy=>⟨za3 hst _ (zex y hy),zu3 hok y hy⟩;refine ⟨_,(zad (zav (zai zcd (zah (pv 1) rfl) zaw (nomark _)) (zae (zcr (zar O_enter_claim (hr.mono (by decide)) (zab (pv 0) (zab (zah (pv 1) rfl) zaf))))) zam)
   (zad (zav (zai zcd (zah (pv 1) rfl) zaw (nomark _)) (zae (zcr (zar O_enter_witness (hr.mono (by decide)) (zab (pv 0) (zab (zah (pv 1) rfl) (zab (zah (pv 1) rfl) zaf)))))) zam)
   (zad (zav (zai zbl (zah (pv 1) rfl) (zc7 (zab zaw (zab zaw zaf))) rfl) (zae (zcr (zar O_enter_words (hr.mono (by decide)) (zab (pv 0) (zab (pv 1) zaf))))) zam)
   (zad (zav (zai zbl (zah (pv 1) rfl) (zc7 (zab zaw (zab zaw zaf))) rfl) (zad (zat (i:=2) zih.nd rfl (Or.inl rfl) (zar O_claim_of (hr.mono (by decide)) (zab (pv 0) (zab (pv 1) zaf))))
   (zae (zbc (pv 2) (zcj (zai zcd (zah (pv 1) rfl) zaw (nomark _)) (zal T.g_PROVED) (zal T.g_REFUTED)) rfl))) zam)
   (zad (zav (zai zbl (zah (pv 1) rfl) (zc7 (zab zaw (zab zaw zaf))) rfl) (zae (zcr (zar O_enter_rule (hr.mono (by decide)) (zab (pv 0) (zab (pv 1) zaf))))) zam)
   (zad (zav (zai zbl (zah (pv 1) rfl) (zc7 (zab zaw (zab zaw zaf))) rfl) (zae (zcr (zar O_enter_boat (hr.mono (by decide)) (zab (pv 0) (zab (pv 1) zaf))))) zam)
   (zae (ps_fldaug (pv 0) zan in_add)))))))),?_⟩
  refine zaq (elN cd H0 L c p x 1) ?_ ?_
  ·intro RR hRR;walk_at "rd2"
   refine fget (R.same _ _ hp) C.cl C.n1 (zbi ..) ⟨rfl,?_⟩;simp only [V.str.injEq,zk6];by_cases h0:kn x=0
   ·rw [if_pos h0];refine fget (R.same _ _ hp) C.cl C.n2 (zho ..) ⟨H0,L,absOf c,lineClaim x,rfl,R,?_,hcn,hnl,fun H' L' hpl R'=>hRR _ _ ⟨none,L',rfl,hpl,?_⟩⟩
    ·cases x with
     | claim n=>
      rw [zkd] at hcl;exact of_decide_eq_false hcl
     | _=>simp [kn] at h0
    ·rw [if_pos (by omega)]
     cases x with
     | claim n=>exact R'
     | _=>simp [kn] at h0
   ·rw [if_neg h0];exact hRR _ _ ⟨none,L,rfl,rfl,by rw [if_neg (by omega)];exact R⟩
  rintro σ1 H1 ⟨v1,L1,rfl,hpl1,R1⟩;refine zaq (elN cd H0 L c p x 2) ?_ ?_
  ·intro RR hRR;walk_at "rd2"
   refine fget (R1.same _ _ hp) C.cl C.n1 (zbi ..) ⟨rfl,?_⟩;simp only [V.str.injEq,zrw];by_cases h0:kn x=1
   ·rw [if_pos h0];rw [if_neg (by omega)] at R1
    refine fget (R1.same _ _ hp) C.cl C.n3 (zhn ..) (fget (R1.same _ _ hp) C.cl C.n4 (zk5 ..) ⟨H0,L1,absOf c,lineWho x,lineAmount x,by rw [hpl1],R1,hwl,hwb,fun H' R'=>hRR _ _ ⟨v1,L1,rfl,hpl1,?_⟩⟩)
    rw [if_pos (by omega)]
    cases x with
    | weight a n=>exact R'
    | _=>simp [kn] at h0
   ·rw [if_neg h0];exact hRR _ _ ⟨v1,L1,rfl,hpl1,by
     by_cases z:kn x<1
     ·rw [if_pos z] at R1;rw [if_pos (by omega)]
      exact R1
     ·rw [if_neg z] at R1;rw [if_neg (by omega)]
      exact R1⟩
  clear R1;rintro σ2 H2 ⟨v2,L2,rfl,hpl2,R2⟩;refine zaq (elN cd H0 L c p x 3) ?_ ?_
  ·intro RR hRR;walk_at "rd2"
   refine fget (R2.same _ _ hp) C.cl C.n1 (zbi ..) ⟨by decide,fun t ht=>⟨_,.inr (SqT.of zaa),rfl,rfl,?_⟩⟩
   have R2':=R2.sameR (Same.new (o:=.tup [V.str (Str.ofString "says"),V.str (Str.ofString "denies")]) ht);generalize upd H2 t (.tup [V.str (Str.ofString "says"),V.str (Str.ofString "denies")])=H2' at R2'
   rw [if_neg Bool.false_ne_true,kd_word];simp only [decide_eq_true_eq];by_cases h0:kn x=2
   ·rw [if_pos h0];rw [if_neg (by omega)] at R2'
    have hn:=zfe hst (.inl h0);cases x with
    | word sd a n=>
     refine ⟨H0,L2,absOf c,p,l,ps,sd,a,n,claimA c n,by rw [hpl2],R2',hL,hn,hcn,hnl,hwl,hwb,zhd hn,?_,word_new hcl,fun H' R'=>hRR _ _ ⟨v2,L2,rfl,hpl2,?_⟩⟩
     ·have:=zxd (c:=c) n;omega
     ·rw [if_pos (by show 2<3;omega)]
      exact R'
    | _=>simp [kn] at h0
   ·rw [if_neg h0];exact hRR _ _ ⟨v2,L2,rfl,hpl2,by
     by_cases z:kn x<2
     ·rw [if_pos z] at R2';rw [if_pos (by omega)]
      exact R2'
     ·rw [if_neg z] at R2';rw [if_neg (by omega)]
      exact R2'⟩
  clear R2;rintro σ3 H3 ⟨v3,L3,rfl,hpl3,R3⟩;refine zaq (elN cd H0 L c p x 4) ?_ ?_
  ·intro RR hRR;walk_at "rd2"
   refine fget (R3.same _ _ hp) C.cl C.n1 (zbi ..) ⟨by decide,fun t ht=>⟨_,.inr (SqT.of zaa),rfl,rfl,?_⟩⟩
   have R3':=R3.sameR (Same.new (o:=.tup [V.str (Str.ofString "seen"),V.str (Str.ofString "unseen")]) ht);generalize upd H3 t (.tup [V.str (Str.ofString "seen"),V.str (Str.ofString "unseen")])=H3' at R3'
   rw [if_neg Bool.false_ne_true,kd_seen];simp only [decide_eq_true_eq];by_cases h0:kn x=3
   ·rw [if_pos h0];rw [if_neg (by omega)] at R3'
    have hn:=zfe hst (.inr (.inl h0));refine ⟨L3,absOf c,p,l,ps,x,by rw [hpl3],R3'.cl,hL.same R3'.same,hn,by omega,by omega,?_⟩
    refine fget (R3'.same _ _ hp) C.cl C.n1 (zbi ..) ⟨rfl,?_⟩;simp only [V.str.injEq,kd_see h0];cases x with
    | seen sd n=>
     have hq:=zhd hn;cases sd with
     | true=>
      rw [if_pos (show kb (Line.seen true n)=true from rfl)]
      refine ⟨_,rfl,_,_,_,R3'.cl.claim hq,CM.cl,CM.n1,(by show 3<1000;decide),?_⟩
      have:=R3'.known hq 1;exact hRR _ _ ⟨_,L3,rfl,hpl3,by rw [if_pos (by show 3<4;omega)];exact this⟩
     | false=>
      rw [if_neg (show ¬ kb (Line.seen false n)=true from by intro z;cases z)]
      refine ⟨_,rfl,_,_,_,R3'.cl.claim hq,CM.cl,CM.n1,(by show 3<1000;decide),?_⟩
      have:=R3'.known hq 2;exact hRR _ _ ⟨_,L3,rfl,hpl3,by rw [if_pos (by show 3<4;omega)];exact this⟩
    | _=>simp [kn] at h0
   ·rw [if_neg h0];exact hRR _ _ ⟨v3,L3,rfl,hpl3,by
     by_cases z:kn x<3
     ·rw [if_pos z] at R3';rw [if_pos (by omega)]
      exact R3'
     ·rw [if_neg z] at R3';rw [if_neg (by omega)]
      exact R3'⟩
  clear R3;rintro σ4 H4 ⟨v4,L4,rfl,hpl4,R4⟩;refine zaq (elN cd H0 L c p x 5) ?_ ?_
  ·intro RR hRR;walk_at "rd2"
   refine fget (R4.same _ _ hp) C.cl C.n1 (zbi ..) ⟨by decide,fun t ht=>⟨_,.inr (SqT.of zaa),rfl,rfl,?_⟩⟩
   have R4':=R4.sameR (Same.new (o:=.tup [V.str (Str.ofString "for"),V.str (Str.ofString "against")]) ht);generalize upd H4 t (.tup [V.str (Str.ofString "for"),V.str (Str.ofString "against")])=H4' at R4'
   rw [if_neg Bool.false_ne_true,kd_rule];simp only [decide_eq_true_eq];by_cases h0:kn x=4
   ·rw [if_pos h0];rw [if_neg (by omega)] at R4'
    have hn:=zfe hst (.inr (.inr h0));cases x with
    | rule sd n cs=>
     refine ⟨H0,L4,absOf c,p,l,ps,sd,n,cs,claimA c n,by rw [hpl4],R4',hL,hn,hcn,hnl,zhd hn,?_,hconds,fun H' L' hpl R'=>hRR _ _ ⟨v4,L',rfl,by rw [hpl,hpl4],?_⟩⟩
     ·have:=zlj (c:=c) n;omega
     ·rw [if_pos (by show 4<5;omega)]
      exact R'
    | _=>simp [kn] at h0
   ·rw [if_neg h0];exact hRR _ _ ⟨v4,L4,rfl,hpl4,by
     by_cases z:kn x<4
     ·rw [if_pos z] at R4';rw [if_pos (by omega)]
      exact R4'
     ·rw [if_neg z] at R4';rw [if_neg (by omega)]
      exact R4'⟩
  clear R4;rintro σ5 H5 ⟨v5,L5,rfl,hpl5,R5⟩;refine zaq (elN cd H0 L c p x 7) ?_ ?_
  ·intro RR hRR;walk_at "rd2"
   refine fget (R5.same _ _ hp) C.cl C.n1 (zbi ..) ⟨by decide,fun t ht=>⟨_,.inr (SqT.of zaa),rfl,rfl,?_⟩⟩
   have R5':=R5.sameR (Same.new (o:=.tup [V.str (Str.ofString "penalty"),V.str (Str.ofString "redress")]) ht);generalize upd H5 t (.tup [V.str (Str.ofString "penalty"),V.str (Str.ofString "redress")])=H5' at R5'
   rw [if_neg Bool.false_ne_true,kd_boat];simp only [decide_eq_true_eq];have hk7:=zwl x;by_cases h0:5≤kn x
   ·rw [if_pos h0];rw [if_neg (by omega)] at R5'
    refine ⟨H0,L5,absOf c,p,l,ps,x,by rw [hpl5],R5',hL,h0,hnl,?_,?_,hconds,fun H' L' hpl R'=>hRR _ _ ⟨v5,L',rfl,by rw [hpl,hpl5],by rw [if_pos hk7];exact R'⟩⟩
    ·have:=zpz c;show (boatNames c).length≤1000;omega
    ·intro q hq;obtain ⟨b,_,rfl⟩:=List.mem_map.mp hq;have:=zuz (c:=c) b;omega
   ·rw [if_neg h0];exact hRR _ _ ⟨v5,L5,rfl,hpl5,by
     rw [if_pos (by omega)] at R5'
     rw [if_pos (by omega)]
     exact R5'⟩
  clear R5;rintro σ6 H6 ⟨v6,L6,rfl,hpl6,R6⟩;rw [if_pos (zwl x)] at R6;have hcs:=R6.cl.case;rw [hpl6] at hcs;walk_at "rd2"
  refine ⟨_,_,_,hcs,CC.cl,CC.n1,_,zge ..,_,rfl,_,_,hcs,(by show 6<1000;decide),?_⟩
  have R7:=R6.lines ((enterB (absOf c) x).lines+1);rw [hpl6] at R7;rw [caseF_p1 _ _ _ _ _ _ _ ((enterB (absOf c) x).lines+1) (by omega)]
  refine k _ _ hpl6 ?_;rw [zxc hv hw0];have e:enterA (absOf c) x={enterB (absOf c) x with lines:=(enterB (absOf c) x).lines+1}:=by
   unfold enterA;rw [zr7]
  rw [e];exact R7
end
end
section
open PySem PySem.Spec PyProof.Rows L2
open RgCase (Bytes ascii nameOk claimName cutAt Line Cond Name Case)
section
variable {P:Program}{w:World}{K:PySem.W.Frag}{mg:Str→Option Value}{base:Heap}{ad:Ads}{cd:Cds}
theorem Rep.weak {H0 H0' H:Hp}{L:Lay}{A:Abs}(R:Rep cd H0' H L A)(h:Same H0 H0'):Rep cd H0 H L A:=by
 refine ⟨R.cells,R.inj,fun t o e=>?_,h.trans R.same,R.bn,R.cn⟩;cases z:H0 (L.pl t) with
 | none=>rfl
 | some u=>
  have:=h _ _ z;rw [R.new t o e] at this;cases this
open Classical in
noncomputable def beside (H0 H':Hp)(S:Addr→Prop):Hp:=fun q=>if S q then H' q else H0 q
theorem zc5 {H0 H':Hp}{S:Addr→Prop}{q:Addr}(h:S q):beside H0 H' S q=H' q:=by unfold beside;rw [if_pos h]
theorem zd6 {H0 H':Hp}{S:Addr→Prop}{q:Addr}(h:¬ S q):beside H0 H' S q=H0 q:=by unfold beside;rw [if_neg h]
theorem Rep.beside {H0 H H':Hp}{L:Lay}{A:Abs}(R:Rep cd H0 H L A)(S:Addr→Prop)(hS:∀ q,S q→H q=none)(hs:Same H H'):Rep cd (beside H0 H' S) H' L A∧Same H0 (HC.beside H0 H' S):=by
 refine ⟨⟨fun t u e=>hs _ _ (R.cells t u e),R.inj,fun t u e=>?_,fun q u e=>?_,R.bn,R.cn⟩,fun q u e=>?_⟩
 ·rw [zd6 fun z=>by have:=hS _ z;rw [R.cells t u e] at this;cases this]
  exact R.new t u e
 ·by_cases z:S q
  ·rw [zc5 z] at e;exact e
  ·rw [zd6 z] at e;exact hs _ _ (R.same _ _ e)
 ·rw [zd6 fun z=>by have:=hS _ z;rw [R.same _ _ e] at this;cases this]
  exact e
theorem zm0 {CL:Addr}{H0 H':Hp}{S:Addr→Prop}{p l:Addr}{ps:List Addr}{x:Line}(h:LineObj CL H' p x l ps)(h1:S p)(h2:S l)(h3:∀ q∈ps,S q):LineObj CL (beside H0 H' S) p x l ps:=by
 obtain ⟨⟨dx,h4⟩,h5,h6⟩:=h;refine ⟨⟨dx,by rw [zc5 h1];exact h4⟩,by rw [zc5 h2];exact h5,Paired.zfc h6 fun q hm _ hq=>?_⟩
 rw [zc5 (h3 q hm)];exact hq
theorem canon_lt (c:UInt8):(canon c).toNat<128:=by
 have h:∀ n:Fin 256,(canon (UInt8.ofNat n.1)).toNat<128:=by decide +kernel
 have:=h ⟨c.toNat,c.toNat_lt⟩;rw [UInt8.ofNat_toNat] at this;exact this
theorem s_nl:Str.ofString "\n"=toS [10]:=by decide +kernel
theorem zpo (c:Case)(b:Bytes)(r:List Bytes):enterAll c (b::r)=match RgCase.lineIn b with
  | none=>.error (c.length,1)
  | some x=>if RgCase.wrongOf c x=0 then enterAll (c++[x]) r else .error (c.length,RgCase.wrongOf c x):=rfl
def etP (cd:Cds)(H1:Hp)(L:Lay)(a ll:Addr)(u:Bytes)(ls:List Bytes)(i:Nat)(σ:L2.St)(H':Hp):Prop:=∃ (v4 v5 v6:Option V) (L':Lay) (c:Case),σ=[some (.ref (L.pl .case)),some (.ref a),some (.ref ll),some (.str (toS u)),v4,v5,v6]∧
 L'.pl .case=L.pl .case∧Valid c∧Rep cd H1 H' L' (absOf c)∧enterAll [] ls=enterAll c (ls.drop i)
def zfs (cd:Cds):Sp:=fun vs H Q _=>∃ (H0:Hp) (L:Lay) (a:Addr) (t:Bytes),vs=[.ref (L.pl .case),.ref a]∧Rep cd H0 H L (absOf [])∧H0 a=some (.lst (t.map fun c=>V.int (c.toNat:Nat)))∧t.length≤65536∧
 (∀ d,RgCase.readCase t=.ok d→∀ H' L' r,L'.pl .case=L.pl .case→Rep cd H0 H' L' (absOf d)→H' r=some (.lst [])→Q (.ref r) H')∧
 (∀ i e,RgCase.readCase t=.error (i,e)→∀ H' r,Same H0 H'→H' r=some (.lst [.int (i:Nat),.int (e:Nat)])→Q (.ref r) H')
abbrev zdq:Stmt:=top 65
theorem zce:FnScope ["case","text","lines","unended","signs","line","wrong"] ["case","text"] (defScope zdq):=⟨rfl,rfl,rfl,by decide +kernel,rfl,by decide +kernel,by decide +kernel⟩
theorem zp3:BindOk "enter_text" "enter_text" zdq ["case","text"]:=fun _ _ _ _ _ _=>ls2 fun _ _=>rfl
theorem zo5 (D:DefAt K mg "enter_text" zdq)(T:TxtR mg)(CC:ClsCase K cd.cCase)(O_signs_of:Own P w K mg base "signs_of" 1 ["numbers"] zfr)(O_read_line:Own P w K mg base "read_line" 4 ["signs"] (zgq ad.cLine))(O_what_is_wrong:Own P w K mg base "what_is_wrong" 3 ["case","line"] (zdw ad.cLine cd))(O_enter_line:Own P w K mg base "enter_line" 4 ["case","line"] (zfu ad.cLine cd)):
  Own P w K mg base "enter_text" 5 ["case","text"] (zfs cd):=by
 refine za5 D zce zp3 (fun vs H Q E h=>?_) (fun f cdv A outer s H vs Q E hr h=>?_)
 ·obtain ⟨H0,L,a,t,rfl,_⟩:=h;rfl
 ·obtain ⟨H0,L,a,t,rfl,R,hA,ht,kok,kerr⟩:=h;have hu:=zf8 hr;obtain ⟨ls,u,e1,_,_⟩:=zgl (t.map canon);have hrc:=zmn e1;have hcl:=zud 10 (t.map canon);rw [e1,List.length_map] at hcl;have hsp:(Txt.split (toS (t.map canon)) (Str.ofString "\n")).map V.str=(ls.map fun b=>V.str (toS b))++[V.str (toS u)]:=by
   rw [s_nl,zqr,e1,List.map_map,List.map_append];rfl
  refine ⟨_,(zad (zat (i:=2) zce.nd rfl (Or.inl rfl) (zu0 (zar O_signs_of (hr.mono (by decide)) (zab (pv 1) zaf)) zaw))
   (zad (zat (i:=3) zce.nd rfl (Or.inl rfl) (pe_bm0 PySem.F.plainAttrs_list PySem.F.slot_list_pop PySem.F.type_list_pop mt_pop (pv 2)))
   (zad (zim PassesOwn.never rfl (zfb (pv 2)) (zbj (i:=4) zce.nd rfl (Or.inl rfl))
    (zad (zat (i:=5) zce.nd rfl (Or.inl rfl) (zar O_read_line (hr.mono (by decide)) (zab (pv 4) zaf)))
   (zad (zat (i:=6) zce.nd rfl (Or.inl rfl) (zar O_what_is_wrong (hr.mono (by decide)) (zab (pv 0) (zab (pv 5) zaf))))
   (zad (zav (zai zmp (pv 6) (zal T.g_NOTHING_WRONG) (nomark _)) (zae (zak (zbd (zab (zah (pv 0) rfl) (zab (pv 6) zaf))))) zam)
   (zae (zcr (zar O_enter_line (hr.mono (by decide)) (zab (pv 0) (zab (pv 5) zaf)))))))))
   (zad (zav (zai zmp (pv 3) zaw (nomark _)) (zae (zak (zbd (zab (zah (pv 0) rfl) (zab (zal T.g_NOT_FORMED) zaf))))) zam)
   (zae (zak (zbd zaf))))))),?_⟩
  refine zaq (fun σ' H'=>∃ ll,σ'=[some (.ref (L.pl .case)),some (.ref a),some (.ref ll),none,none,none,none]∧H ll=none∧H' ll=some (.lst ((ls.map fun b=>V.str (toS b))++[V.str (toS u)]))∧Same H H') ?_ ?_
  ·intro RR hRR;walk_at "rd2"
   refine ⟨a,t,rfl,R.same _ _ hA,by omega,fun H1 S1=>?_⟩
   refine ⟨⟨_,rfl⟩,_,rfl,rfl,by rw [ze1,List.length_map];exact Nat.le_trans (Nat.add_le_add_right ht 2) (by decide),fun ll hll=>?_⟩
   rw [hsp];exact hRR _ _ ⟨ll,rfl,S1.free hll,zaa,S1.trans (Same.new hll)⟩
  rintro σ1 H1 ⟨ll,rfl,nll,hll,S1⟩;refine zaq (fun σ' H'=>σ'=[some (.ref (L.pl .case)),some (.ref a),some (.ref ll),some (.str (toS u)),none,none,none]∧H' ll=some (.lst (ls.map fun b=>V.str (toS b)))∧Same H H') ?_ ?_
  ·intro RR hRR;walk_at "rd2"
   refine ⟨.inl ⟨rfl,_,SqL.of hll⟩,_,hll,_,?_,hRR _ _ ⟨rfl,?_,HC.Same.upd S1 nll⟩⟩
   ·rw [List.length_append,List.length_singleton,Nat.add_sub_cancel];exact zd9
   ·rw [zaa,List.dropLast_concat]
  rintro σ2 H2 ⟨rfl,hl2,S2⟩;have R2:=R.side nll S2 hl2;obtain ⟨H1',hH1'⟩:∃ H1',H1'=upd H0 ll (.lst (ls.map fun b=>V.str (toS b))):=⟨_,rfl⟩;rw [←hH1'] at R2;have hll1:H1' ll=some (.lst (ls.map fun b=>V.str (toS b))):=by rw [hH1'];exact zaa
  have S01:Same H0 H1':=by
   rw [hH1'];refine Same.new ?_;cases z:H0 ll with
   | none=>rfl
   | some o=>rw [R.same _ _ z] at nll;cases nll
  refine zaq (etP cd H1' L a ll u ls ls.length) ?_ ?_
  ·intro RR hRR;refine ⟨_,rfl,ll,rfl,⟨_,SqL.of hl2⟩,zk7 (K:=K) (a:=ll) (xs:=ls.map fun b=>V.str (toS b)) (etP cd H1' L a ll u ls) ⟨none,none,none,L,[],rfl,rfl,.nil,R2,rfl⟩ (fun i σ H' _ ⟨_,_,_,_,_,_,_,_,R',_⟩=>SqL.of (R'.same _ _ hll1)) ?_ ?_⟩
   ·rintro i y σ H' hy ⟨v4,v5,v6,L',c,rfl,hpl,hv,R',he⟩;obtain ⟨b,hb,rfl⟩:∃ b,ls[i]? = some b∧y=V.str (toS b):=by
     rw [List.getElem?_map] at hy;cases e:ls[i]? with
     | none=>rw [e] at hy;cases hy
     | some b=>
      rw [e] at hy;exact ⟨b,rfl,(Option.some.inj hy).symm⟩
    have hbm:b∈ls++[u]:=List.mem_append_left _ (List.mem_of_getElem? hb);have hbl:=hcl.2 b hbm;have hdr:ls.drop i=b::ls.drop (i+1):=by
     obtain ⟨h1,h2⟩:=List.getElem?_eq_some_iff.mp hb;rw [List.drop_eq_getElem_cons h1,h2]
    rw [hdr,zpo,ziy] at he;walk_at "rd2"
    refine ⟨b,rfl,by omega,fun z hz=>?_,fun hno H3 S3=>?_,fun x hx H3 p l ps hL np nl nps S3=>?_⟩
    ·obtain ⟨z',_,rfl⟩:=List.mem_map.mp (hbl.2 z hz);exact canon_lt z'
    ·rw [hno] at he;have R3:=R'.sameR S3;refine ⟨L',c,R3.cl,hv,.inl ⟨by rw [hpl],fun H4 S4=>?_⟩⟩
     have R4:=R3.sameR S4;refine ⟨rfl,?_⟩;rw [if_pos (by decide)]
     have hcs:=R4.cl.case;rw [hpl] at hcs;refine fget hcs CC.cl CC.n1 (zge ..) ⟨by decide,fun r hr=>?_⟩
     refine kerr c.length 1 ?_ _ r (S01.trans (R4.same.trans (Same.new hr))) zaa;rw [hrc,he];rfl
    ·rw [hx] at he;have hok:x.ok=true:=(zep.mp (by rw [ziy];exact hx)).1
     have R3:=R'.sameR S3;refine ⟨L',c,R3.cl,hv,.inr ⟨p,l,ps,x,by rw [hpl],hL,hok,fun H4 S4=>?_⟩⟩
     have R4:=R3.sameR S4;have hL4:=hL.same S4;have he':enterAll [] ls=if RgCase.wrongOf c x=0 then enterAll (c++[x]) (ls.drop (i+1)) else .error (c.length,RgCase.wrongOf c x):=he
     by_cases hz:RgCase.wrongOf c x=0
     ·rw [if_pos hz] at he';refine ⟨rfl,?_⟩;rw [if_neg (by rw [hz];exact fun z=>z rfl)]
      obtain ⟨R5,S5⟩:=R'.beside (fun q=>q=p∨q=l∨q∈ps) (fun q hq=>hq.elim (fun e=>e▸np) fun hq=>hq.elim (fun e=>e▸nl) (nps q)) (S3.trans S4);refine ⟨_,L',c,p,l,ps,x,by rw [hpl],R5,hv,zm0 hL4 (.inl rfl) (.inr (.inl rfl)) (fun q hq=>.inr (.inr hq)),hok,hz,fun H6 L6 hpl6 R6=>?_⟩
      exact ⟨_,_,_,L6,c++[x],rfl,by rw [hpl6,hpl],.snoc hv hok hz,R6.weak S5,he'⟩
     ·rw [if_neg hz] at he';refine ⟨rfl,?_⟩;rw [if_pos (by intro z;exact hz (by have:=V.int.inj z;omega))]
      have hcs:=R4.cl.case;rw [hpl] at hcs;refine fget hcs CC.cl CC.n1 (zge ..) ⟨by decide,fun r hr=>?_⟩
      refine kerr c.length (RgCase.wrongOf c x) ?_ _ r (S01.trans (R4.same.trans (Same.new hr))) zaa;rw [hrc,he'];rfl
   ·rintro σ H' h;rw [List.length_map] at h;exact hRR _ _ h
  rintro σ3 H3 ⟨v4,v5,v6,L',c,rfl,hpl,hv,R',he⟩;rw [List.drop_length] at he;have he':enterAll [] ls=.ok c:=he;walk_at "rd2"
  have hcs:=R'.cl.case;rw [hpl] at hcs;rw [←zxn];simp only [zxo];by_cases hu0:u=[]
  ·rw [if_neg (by rw [hu0];exact fun z=>z rfl)]
   refine ⟨Nat.zero_le _,fun r hr=>?_⟩;refine kok c ?_ _ L' r hpl ((R'.sameR (Same.new hr)).weak S01) zaa;rw [hrc,he',hu0];rfl
  ·rw [if_pos hu0];refine fget hcs CC.cl CC.n1 (zge ..) ⟨by decide,fun r hr=>?_⟩
   refine kerr c.length 1 ?_ _ r (S01.trans (R'.same.trans (Same.new hr))) zaa;rw [hrc,he'];show (if u=[] then _ else _)=_
   rw [if_neg hu0]
end
end
section
open PySem PySem.Spec PyProof.Rows L2
open RgCase (Bytes ascii nameOk claimName cutAt Line Cond Name Case)
theorem for_enumL {K:PySem.W.Frag}{a:Addr}{xs:List V}{g:TG}{tb:TS}{D:Ends}{σ:L2.St}{H:Hp}(Pv:Nat→L2.St→Hp→Prop)(h0:Pv 0 σ H)(hl:∀ i σ H,i≤xs.length→Pv i σ H→SqL K H a xs)(hs:∀ i x σ H T,xs[i]? = some x→Pv i σ H→H T=none→g (.ref T) σ (upd H T (.tup [.int (i:Nat),x])) fun σ2 H2=>tb {D with nx:=Pv (i+1),ct:=Pv (i+1),bk:=D.nx} σ2 H2)(hd:∀ σ H,Pv xs.length σ H→D.nx σ H):
  ∃ W:Nat→Nat→L2.St→Hp→Prop,(∃ m,W 0 m σ H)∧∀ i m σ H,W i m σ H→
   ((Ite K a).stop i H∧D.nx σ H)∨((Ite K a).go i H∧∃ N:L2.St→Hp→Prop,(∀ σ' H',N σ' H'→∃ m',m'<m∧W (i+1) m' σ' H')∧∀ x H',(Ite K a).yld i H x H'→g x σ H' fun σ2 H2=>tb {D with nx:=N,ct:=N,bk:=D.nx} σ2 H2):=by
 refine ⟨fun i m σ H=>m=xs.length - i∧i≤xs.length∧Pv i σ H,⟨xs.length,by simp,Nat.zero_le _,h0⟩,?_⟩
 rintro i m σ H ⟨rfl,hi,p⟩;have q:=hl i σ H hi p;by_cases hlt:i<xs.length
 ·refine .inr ⟨⟨xs,xs[i],q,List.getElem?_eq_getElem hlt⟩,Pv (i+1),fun σ' H' p'=>⟨xs.length - (i+1),by omega,rfl,hlt,p'⟩,fun x H' y=>?_⟩
  obtain ⟨T,z,rfl,hT,rfl,hz⟩:=y;exact hs i z σ H T (hz xs q) p hT
 ·have e:i=xs.length:=by omega
  exact .inl ⟨⟨xs,q,by omega⟩,hd σ H (e▸p)⟩
theorem for_items {d:Addr}{o:Obj}{kvs:List (Key×V)}{g:TG}{tb:TS}{D:Ends}{σ:L2.St}{H:Hp}(Pv:Nat→L2.St→Hp→Prop)(h0:Pv 0 σ H)(hl:∀ i σ H,Pv i σ H→H d=some (.frz o (.dK kvs)))(hs:∀ i k v σ H T,kvs[i]? = some (k,v)→Pv i σ H→H T=none→g (.ref T) σ (upd H T (.tup [kV k,v])) fun σ2 H2=>tb {D with nx:=Pv (i+1),ct:=Pv (i+1),bk:=D.nx} σ2 H2)(hd:∀ σ H,Pv kvs.length σ H→D.nx σ H):
  ∃ W:Nat→Nat→L2.St→Hp→Prop,(∃ m,W 0 m σ H)∧∀ i m σ H,W i m σ H→
   ((Iti d o kvs).stop i H∧D.nx σ H)∨((Iti d o kvs).go i H∧∃ N:L2.St→Hp→Prop,(∀ σ' H',N σ' H'→∃ m',m'<m∧W (i+1) m' σ' H')∧∀ x H',(Iti d o kvs).yld i H x H'→g x σ H' fun σ2 H2=>tb {D with nx:=N,ct:=N,bk:=D.nx} σ2 H2):=by
 refine ⟨fun i m σ H=>m=kvs.length - i∧i≤kvs.length∧Pv i σ H,⟨kvs.length,by simp,Nat.zero_le _,h0⟩,?_⟩
 rintro i m σ H ⟨rfl,hi,p⟩;have q:=hl i σ H p;by_cases hlt:i<kvs.length
 ·refine .inr ⟨⟨q,hlt⟩,Pv (i+1),fun σ' H' p'=>⟨kvs.length - (i+1),by omega,rfl,hlt,p'⟩,fun x H' y=>?_⟩
  obtain ⟨T,k,v,hz,rfl,hT,rfl⟩:=y;exact hs i k v σ H T hz p hT
 ·have e:i=kvs.length:=by omega
  exact .inl ⟨⟨q,by omega⟩,hd σ H (e▸p)⟩
section
variable {P:Program}{w:World}{K:PySem.W.Frag}{mg:Str→Option Value}{base:Heap}{ad:Ads}{cd:Cds}
def zc9:Sp:=fun vs H Q _=>∃ n f:Nat,vs=[.int n,.int f]∧Q (.bl (holdsN f n)) H
abbrev zfh:Stmt:=top 29
theorem ztc:FnScope ["needed","facts"] ["needed","facts"] (defScope zfh):=⟨rfl,rfl,rfl,by decide +kernel,rfl,by decide +kernel,by decide +kernel⟩
theorem zuj:BindOk "all_hold" "all_hold" zfh ["needed","facts"]:=fun _ _ _ _ _ _=>ls2 fun _ _=>rfl
theorem ztp (D:DefAt K mg "all_hold" zfh):Own P w K mg base "all_hold" 1 ["needed","facts"] zc9:=by
 refine za5 D ztc zuj (fun vs H Q E h=>?_) (fun f cdv A outer s H vs Q E hr h=>?_)
 ·obtain ⟨n,f,rfl,_⟩:=h;rfl
 ·obtain ⟨n,f,rfl,k⟩:=h;refine ⟨_,(zae (zak (zg7 zcd (zc6 op_and (pv 1) (pv 0)) (pv 0) (nomark _)))),?_⟩;walk_at "rd2"
  rw [zjt];have e:decide (((f &&& n:Nat):Int)=(n:Int))=holdsN f n:=by
   unfold holdsN;by_cases q:f &&& n=n
   ·rw [decide_eq_true q,decide_eq_true (by rw [q])]
   ·rw [decide_eq_false q,decide_eq_false (by omega)]
  rw [e];exact k
def goZ (facts:Nat)(l:List (RuleA×Nat)):List (RuleA×Nat):=l.filter fun x=>holdsN facts x.1.need
theorem zt6 (facts:Nat)(q:ClaimA):(goZ facts q.rules.zipIdx).map (·.1)=goingA facts q:=by
 unfold goZ goingA;have:∀ (l:List RuleA) (k:Nat),((l.zipIdx k).filter fun x=>holdsN facts x.1.need).map (·.1)=l.filter fun r=>holdsN facts r.need:=by
  intro l;induction l with
  | nil=>intro k;rfl
  | cons r t ih=>
   intro k;rw [List.zipIdx_cons,List.filter_cons,List.filter_cons];cases holdsN facts r.need with
   | true=>
    simp only [if_true];rw [List.map_cons,ih]
   | false=>
    simp only [Bool.false_eq_true,if_false];exact ih _
 exact this q.rules 0
def goRefs (L:Lay)(i facts:Nat)(q:ClaimA):List V:=(goZ facts q.rules.zipIdx).map fun x=>V.ref (L.pl (.rule i x.2))
def zdj (cd:Cds):Sp:=fun vs H Q _=>∃ (L:Lay) (A:Abs) (i facts:Nat) (q:ClaimA),vs=[.ref (L.pl (.claim i)),.int facts]∧Cells cd H L A∧A.claims[i]? = some q∧q.rules.length≤1000∧
 ∀ (H':Hp) (r:Addr),H' r=some (.lst (goRefs L i facts q))→H r=none→Same H H'→Q (.ref r) H'
abbrev zch:Stmt:=top 30
theorem ze9:FnScope ["claim","facts","rule"] ["claim","facts"] (defScope zch):=⟨rfl,rfl,rfl,by decide +kernel,rfl,by decide +kernel,by decide +kernel⟩
theorem zm9:BindOk "going_rules" "going_rules" zch ["claim","facts"]:=fun _ _ _ _ _ _=>ls2 fun _ _=>rfl
theorem zmt (D:DefAt K mg "going_rules" zch)(T:TxtR mg)(CM:ClsClaim K cd.cClaim)(CR:ClsRule K cd.cRule)(O_all_hold:Own P w K mg base "all_hold" 1 ["needed","facts"] zc9):
  Own P w K mg base "going_rules" 2 ["claim","facts"] (zdj cd):=by
 refine za5 D ze9 zm9 (fun vs H Q E h=>?_) (fun f cdv A outer s H vs Q E hr h=>?_)
 ·obtain ⟨L,A,i,facts,q,rfl,_⟩:=h;rfl
 ·obtain ⟨L,A,i,facts,q,rfl,hC,hq,hl,k⟩:=h;refine ⟨_,(zae (zak (ztk (own:=[("rule",2)]) (tt:=tB (tCall zc9 [] E0 (tCons (tFld K (tVar 2) "needed") (tCons (tVar 1) tNil)))) rfl ze9.nd (zfb (zah (pv 0) rfl)) (ze0 (N:=["claim","facts","rule"]) (sc:=defScope zch) (by decide +kernel)) (fun _ _ _ _ _=>(zbj (i:=2) ze9.nd rfl (Or.inl rfl))) (fun _ _ _ _ _=>by exact (zti (zev (zar O_all_hold (hr.mono (by decide)) (zab (zah (pv 2) (by rfl)) (zab (pv 1) zaf)))))) (fun _ _ _ _ _=>(pv 2))))),?_⟩
  walk_at "rd2"
  refine ⟨_,rfl,_,_,_,_,_,rfl,hC.claim hq,CM.cl,CM.n3,zsd ..,_,rfl,⟨_,SqL.of (hC.rules hq)⟩,fun r hr=>?_⟩;have hrl:=hC.rules hq;refine zjo (K:=K) (a:=L.pl (.rules i)) (xs:=refs (fun j=>L.pl (.rule i j)) q.rules.length) (fun j H2=>Same H H2∧H2 r=some (.lst ((goZ facts (q.rules.zipIdx.take j)).map fun x=>V.ref (L.pl (.rule i x.2))))) ⟨Same.new hr,zaa⟩
   (fun j H2 _ ⟨S2,_⟩=>SqL.of (S2 _ _ hrl)) ?_ ?_
  ·rintro j y H2 hy ⟨S2,h2⟩;have hj:j<q.rules.length:=by
    have:=(List.getElem?_eq_some_iff.mp hy).1;rwa [zci] at this
   rw [zk4 hj] at hy;cases hy;have hz:q.rules.zipIdx.take (j+1)=q.rules.zipIdx.take j++[(q.rules[j],j)]:=by
    rw [List.take_add_one,List.getElem?_zipIdx,List.getElem?_eq_getElem hj];simp
   have hC2:=hC.same S2;refine ⟨rfl,?_⟩;refine ⟨_,rfl,_,_,_,_,_,rfl,hC2.rule hq (List.getElem?_eq_getElem hj),CR.cl,CR.n3,ruleF_g3 ..,_,rfl,?_⟩;refine ⟨q.rules[j].need,facts,rfl,_,rfl,?_⟩;show (if holdsN facts q.rules[j].need=true then _ else _)
   by_cases hh:holdsN facts q.rules[j].need=true
   ·rw [if_pos hh];refine ⟨_,rfl,_,h2,?_,HC.Same.upd S2 hr,?_⟩
    ·rw [List.length_map];refine Nat.lt_of_le_of_lt (Nat.le_trans (List.length_filter_le _ _) ?_) (small hl);rw [List.length_take,List.length_zipIdx];omega
    ·rw [zaa,hz];unfold goZ;rw [List.filter_append,List.map_append];simp [hh]
   ·rw [if_neg hh];refine ⟨S2,?_⟩;rw [h2,hz];unfold goZ;rw [List.filter_append];simp [hh]
  ·rintro H2 ⟨S2,h2⟩;rw [zci,List.take_of_length_le (by simp)] at h2
   exact k H2 r h2 hr S2
theorem inV_nat (n:Nat)(l:List Nat):inV (.int (n:Nat)) (l.map fun (m:Nat)=>V.int m)=decide (n∈l):=by
 induction l with
 | nil=>rfl
 | cons m r ih=>
  unfold inV at ih ⊢;rw [List.map_cons,List.any_cons,ih];have e:eqV (V.int (m:Nat)) (V.int (n:Nat))=decide (m=n):=by
   show ((m:Int)==(n:Int))=_;by_cases q:m=n
   ·subst q;simp
   ·rw [decide_eq_false q,beq_eq_false_iff_ne];omega
  rw [e];by_cases q:m=n
  ·subst q;simp
  ·by_cases q2:n∈r
   ·rw [decide_eq_true q2,Bool.or_true,decide_eq_true (List.mem_cons_of_mem _ q2)]
   ·rw [decide_eq_false q,decide_eq_false q2,decide_eq_false]
    ·rfl
    ·intro z;rcases List.mem_cons.mp z with z | z
     ·exact q z.symm
     ·exact q2 z
theorem zr4 (l:List Nat):(l.map fun (m:Nat)=>V.int m).all flatV=true:=by
 rw [List.all_eq_true];intro x hx;obtain ⟨m,_,rfl⟩:=List.mem_map.mp hx;rfl
def zcp (cd:Cds):Sp:=fun vs H Q _=>∃ (L:Lay) (A:Abs) (i facts:Nat) (q:ClaimA),vs=[.ref (L.pl (.claim i)),.int facts]∧Cells cd H L A∧A.claims[i]? = some q∧q.rules.length≤1000∧
 ∀ H',Same H H'→Q (.int (vRules facts q:Nat)) H'
abbrev za8:Stmt:=top 31
theorem zcq:FnScope ["claim","facts","made","rule"] ["claim","facts"] (defScope za8):=⟨rfl,rfl,rfl,by decide +kernel,rfl,by decide +kernel,by decide +kernel⟩
theorem zic:BindOk "verdict_of_rules" "verdict_of_rules" za8 ["claim","facts"]:=fun _ _ _ _ _ _=>ls2 fun _ _=>rfl
theorem zh6 (D:DefAt K mg "verdict_of_rules" za8)(T:TxtR mg)(CR:ClsRule K cd.cRule)(O_going_rules:Own P w K mg base "going_rules" 2 ["claim","facts"] (zdj cd)):
  Own P w K mg base "verdict_of_rules" 3 ["claim","facts"] (zcp cd):=by
 refine za5 D zcq zic (fun vs H Q E h=>?_) (fun f cdv A outer s H vs Q E hr h=>?_)
 ·obtain ⟨L,A,i,facts,q,rfl,_⟩:=h;rfl
 ·obtain ⟨L,A,i,facts,q,rfl,hC,hq,hl,k⟩:=h;have hgl:(goingA facts q).length≤1000:=Nat.le_trans (List.length_filter_le _ _) hl;refine ⟨_,(zad (ps_setLc (i:=2) (own:=[("rule",3)]) (te:=tFld K (tVar 3) "made") rfl zcq.nd rfl rfl rfl (zfb (zar O_going_rules (hr.mono (by decide)) (zab (pv 0) (zab (pv 1) zaf)))) (ze0 (N:=["claim","facts","made","rule"]) (sc:=defScope za8) (by decide +kernel)) (fun _ _ _ _ _=>(zbj (i:=3) zcq.nd rfl (Or.inl rfl))) (fun _ _ _ _ _=>zln) (fun _ _ _ _ _=>by exact (zah (pv 3) (by rfl))))
   (zad (zav (pw_and (zai zbl (zal T.g_PROVED) (pv 2) rfl) (pw_and1 (zai zbl (zal T.g_REFUTED) (pv 2) rfl))).pt (zae (zak (zal T.g_OPEN))) zam)
   (zae (zak (zcj (zai zoz (zao zap (by rfl) T.b_len PySem.boot_len (zab (pv 2) zaf)) zan (nomark _)) (zbt zax (pv 2) zan (fun _ _=>rfl)) zan))))),?_⟩
  refine zaq (fun σ' H'=>∃ m v3,σ'=[some (.ref (L.pl (.claim i))),some (.int facts),some (.ref m),v3]∧H' m=some (.lst (((goingA facts q).map (·.made)).map fun (n:Nat)=>V.int n))∧Same H H') ?_ ?_
  ·intro RR hRR;refine ⟨_,rfl,_,rfl,L,A,i,facts,q,rfl,hC,hq,hl,fun H1 r0 h0 n0 S1=>⟨r0,rfl,⟨_,SqL.of h0⟩,fun m hm=>?_⟩⟩;refine zjo (K:=K) (a:=r0) (xs:=goRefs L i facts q) (fun j H2=>Same H1 H2∧H2 m=some (.lst ((((goZ facts q.rules.zipIdx).take j).map fun x=>V.int (x.1.made:Nat))))) ⟨Same.new hm,zaa⟩ (fun j H2 _ ⟨S2,_⟩=>SqL.of (S2 _ _ h0)) ?_ ?_
   ·rintro j y H2 hy ⟨S2,h2⟩;obtain ⟨x,hx,rfl⟩:∃ x,(goZ facts q.rules.zipIdx)[j]? = some x∧y=V.ref (L.pl (.rule i x.2)):=by
     unfold goRefs at hy;rw [List.getElem?_map] at hy;cases e:(goZ facts q.rules.zipIdx)[j]? with
     | none=>rw [e] at hy;cases hy
     | some x=>
      rw [e] at hy;exact ⟨x,rfl,(Option.some.inj hy).symm⟩
    have hxr:q.rules[x.2]? = some x.1:=by
     have hm2:x∈q.rules.zipIdx:=(List.mem_filter.mp (List.mem_of_getElem? hx)).1;exact List.mem_zipIdx_iff_getElem?.mp hm2
    have hC2:=(hC.same S1).same S2;refine ⟨rfl,?_⟩;simp only [tYes,if_true];refine ⟨_,rfl,_,_,_,_,_,rfl,hC2.rule hq hxr,CR.cl,CR.n2,ruleF_g2 ..,_,h2,?_,HC.Same.upd S2 hm,?_⟩
    ·rw [List.length_map,List.length_take];have:(goZ facts q.rules.zipIdx).length=(goingA facts q).length:=by rw [←zt6,List.length_map]
     exact small (by omega)
    ·rw [zaa,List.take_add_one,hx];simp
   ·rintro H2 ⟨S2,h2⟩;have hlen:(goRefs L i facts q).length=(goZ facts q.rules.zipIdx).length:=List.length_map _;rw [hlen,List.take_length] at h2;refine hRR _ _ ⟨m,none,rfl,?_,S1.trans S2⟩;rw [h2,←zt6,List.map_map,List.map_map];rfl
  ·rintro σ1 H1 ⟨m,v3,rfl,hm,S1⟩;walk_at "rd2"
   obtain ⟨made,hmade⟩:∃ made,made=(goingA facts q).map (·.made):=⟨_,rfl⟩;rw [←hmade] at hm;have hv:vRules facts q=if 1∈made∧2∈made then 3 else made.headD 0:=by rw [hmade];rfl
   have tail:∃ x,LenV K (V.ref m) H1 x∧if 0<(x:Int) then ∃ x,SqL K H1 m x∧∃ x_1,atI x 0=some x_1∧(¬ (1∈made∧2∈made)→Q x_1 H1) else (¬ (1∈made∧2∈made)→Q (V.int 0) H1):=by
    refine ⟨_,lenL hm,?_⟩;rw [List.length_map];cases made with
    | nil=>
     rw [if_neg (by simp)]
     intro hno;rw [if_neg hno] at hv;have:=k H1 S1;rw [hv] at this;exact this
    | cons z r=>
     rw [if_pos (by rw [List.length_cons];omega)]
     refine ⟨_,SqL.of hm,_,zaj (j:=0) rfl,fun hno=>?_⟩;rw [if_neg hno] at hv;have:=k H1 S1;rw [hv] at this;exact this
   have i1:inV (V.int 1) (made.map fun (n:Nat)=>V.int n)=decide (1∈made):=inV_nat 1 made;have i2:inV (V.int 2) (made.map fun (n:Nat)=>V.int n)=decide (2∈made):=inV_nat 2 made;refine ⟨_,.inl (SqL.of hm),rfl,zr4 _,?_⟩;rw [if_neg Bool.false_ne_true,i1];have fin:¬ (1∈made∧2∈made)→∃ x,LenV K (V.ref m) H1 x∧if 0<(x:Int) then ∃ x,SqL K H1 m x∧∃ x_1,atI x 0=some x_1∧Q x_1 H1 else Q (V.int 0) H1:=by
    intro hno;obtain ⟨x,h1,h2⟩:=tail;refine ⟨x,h1,?_⟩;by_cases z:0<(x:Int)
    ·rw [if_pos z] at h2 ⊢;obtain ⟨y,h3,y1,h4,h5⟩:=h2;exact ⟨y,h3,y1,h4,h5 hno⟩
    ·rw [if_neg z] at h2 ⊢;exact h2 hno
   by_cases h1:1∈made
   ·rw [if_pos (decide_eq_true h1)];refine ⟨_,.inl (SqL.of hm),rfl,zr4 _,?_⟩;rw [if_neg Bool.false_ne_true,i2];by_cases h2:2∈made
    ·rw [if_pos (decide_eq_true h2)];rw [if_pos ⟨h1,h2⟩] at hv;have:=k H1 S1;rw [hv] at this;exact this
    ·rw [if_neg (by rw [decide_eq_false h2];exact Bool.false_ne_true)]
     exact fin fun z=>h2 z.2
   ·rw [if_neg (by rw [decide_eq_false h1];exact Bool.false_ne_true),if_neg Bool.false_ne_true]
    exact fin fun z=>h1 z.1
theorem zxv (n m:Nat):(Builtin.bitAnd ((n:Int) / 2^(m:Int).toNat) 1=0)↔n.testBit m=false:=by
 have e1:(n:Int) / 2^(m:Int).toNat=((n / 2^m:Nat):Int):=by
  rw [show (m:Int).toNat=m by omega]
  simp
 rw [e1,show (1:Int)=((1:Nat):Int) from rfl,zjt,Nat.and_one_is_mod,Nat.testBit_eq_decide_div_mod_eq,decide_eq_false_iff_not]
 omega
theorem bal1 {ws:List Nat}{out:Nat}{b:Int}{x:Nat×Nat}(hb:out.testBit x.1=false)(h1:x.2=1):balStep ws out b x=b+(ws.getD x.1 0:Nat):=by
 unfold balStep;rw [if_pos hb,if_pos h1]
theorem bal2 {ws:List Nat}{out:Nat}{b:Int}{x:Nat×Nat}(hb:out.testBit x.1=false)(h1:¬ x.2=1):balStep ws out b x=b+-((ws.getD x.1 0:Nat):Int):=by
 unfold balStep;rw [if_pos hb,if_neg h1];rfl
theorem bal3 {ws:List Nat}{out:Nat}{b:Int}{x:Nat×Nat}(hb:¬ out.testBit x.1=false):balStep ws out b x=b:=by
 unfold balStep;rw [if_neg hb]
def vwP (H:Hp)(A:Abs)(L:Lay)(i out:Nat)(q:ClaimA)(od:Obj)(j:Nat)(σ:L2.St)(H':Hp):Prop:=∃ v4 v5 v6:Option V,σ=[some (.ref (L.pl .case)),some (.ref (L.pl (.claim i))),some (.int out),some (.int ((q.words.take j).foldl (balStep A.weights out) 0)),v4,v5,v6]∧
 H' (L.pl (.words i))=some (.frz od (.dK (wordsK q)))∧But (L.pl (.words i)) H H'
def zbs (cd:Cds):Sp:=fun vs H Q _=>∃ (L:Lay) (A:Abs) (i out:Nat) (q:ClaimA),vs=[.ref (L.pl .case),.ref (L.pl (.claim i)),.int out]∧Cells cd H L A∧A.claims[i]? = some q∧(∀ x∈q.words,x.1<A.weights.length)∧
 ∀ H',Same H H'→Q (.int (vWit A.weights out q:Nat)) H'
abbrev za0:Stmt:=top 32
theorem zau:FnScope ["case","claim","without","balance","witness","said","weight"] ["case","claim","without"] (defScope za0):=⟨rfl,rfl,rfl,by decide +kernel,rfl,by decide +kernel,by decide +kernel⟩
theorem zgg:BindOk "verdict_of_witnesses" "verdict_of_witnesses" za0 ["case","claim","without"]:=fun _ _ _ _ _ _=>ls3 fun _ _ _=>rfl
theorem zf4 (D:DefAt K mg "verdict_of_witnesses" za0)(T:TxtR mg)(CC:ClsCase K cd.cCase)(CM:ClsClaim K cd.cClaim):
  Own P w K mg base "verdict_of_witnesses" 1 ["case","claim","without"] (zbs cd):=by
 refine za5 D zau zgg (fun vs H Q E h=>?_) (fun f cdv A outer s H vs Q E hr h=>?_)
 ·obtain ⟨L,A,i,out,q,rfl,_⟩:=h;rfl
 ·obtain ⟨L,A,i,out,q,rfl,hC,hq,hws,k⟩:=h;have hwd:=hC.words hq;refine ⟨_,(zad (zat (i:=3) zau.nd rfl (Or.inl rfl) zan)
   (zad (ps_lock (zim PassesOwn.never rfl (pi_items (zah (pv 1) rfl)) (zra rfl (zdm (zbj (i:=4) zau.nd rfl (Or.inl rfl)) (zdm (zbj (i:=5) zau.nd rfl (Or.inl rfl)) zlp)))
    (zae (zav (zai zcd (zc6 op_and (zc6 op_shr (pv 2) (pv 4)) zan) zan (nomark _)) (zad (zat (i:=6) zau.nd rfl (Or.inl rfl) (zbt zax (zah (pv 0) rfl) (pv 4) (fun _ _=>rfl)))
   (zae (ps_aug (i:=3) zau.nd rfl (Or.inl rfl) (zcj (zai zcd (pv 5) (zal T.g_PROVED) (nomark _)) (pv 6) (pe_un un_neg (pv 6))) ip_add))) zam))))
   (zad (zav (zai zcd (pv 3) zan (nomark _)) (zae (zak (zal T.g_OPEN))) zam)
   (zae (zak (zcj (zai zoz (pv 3) zan (nomark _)) (zal T.g_PROVED) (zal T.g_REFUTED))))))),?_⟩
  refine zaq (fun σ' H'=>σ'=[some (.ref (L.pl .case)),some (.ref (L.pl (.claim i))),some (.int out),some (.int 0),none,none,none]∧H'=H) (fun RR hRR=>hRR _ _ ⟨rfl,rfl⟩) ?_;rintro σ0 H0 ⟨rfl,rfl⟩;refine zaq (fun σ' H'=>∃ v4 v5 v6:Option V,σ'=[some (.ref (L.pl .case)),some (.ref (L.pl (.claim i))),some (.int out),some (.int (balance A.weights out q)),v4,v5,v6]∧Same H0 H') ?_ ?_
  ·intro RR hRR;refine ⟨L.pl (.words i),_,hwd,trivial,fun od=>?_⟩;have hne:∀ {b:Addr} {o:HO},H0 b=some o→(∀ kvs,o≠.dK kvs)→b≠L.pl (.words i):=fun e ho z=>by
    rw [z,hwd] at e;cases e;exact ho _ rfl
   have hcm:upd H0 (L.pl (.words i)) (.frz od (.dK (wordsK q))) (L.pl (.claim i))=some (.ins cd.cClaim (L.dx (.claim i)) (claimF q.known (L.pl (.words i)) (L.pl (.rules i)))):=by
    rw [zac (hne (hC.claim hq) (by intro _ z;cases z))]
    exact hC.claim hq
   refine ⟨_,rfl,_,_,_,_,_,rfl,hcm,CM.cl,CM.n2,zi2 ..,_,_,_,rfl,zaa,for_items (vwP H0 A L i out q od) ⟨none,none,none,rfl,zaa,fun b o e hb=>by rw [zac hb];exact e⟩ (fun j σ H' ⟨_,_,_,_,h,_⟩=>h) ?_ ?_⟩
   ·rintro j kk v σ H' t hkv ⟨v4,v5,v6,rfl,hfz,hB⟩ ht;obtain ⟨x,hx,rfl,rfl⟩:∃ x,q.words[j]? = some x∧kk=Sum.inl (x.1:Int)∧v=V.int (x.2:Nat):=by
     unfold wordsK at hkv;rw [List.getElem?_map] at hkv;cases e:q.words[j]? with
     | none=>rw [e] at hkv;cases hkv
     | some x=>
      rw [e] at hkv;have:=Option.some.inj hkv;exact ⟨x,rfl,(congrArg Prod.fst this).symm,(congrArg Prod.snd this).symm⟩
    have hxl:=hws x (List.mem_of_getElem? hx);have nt:∀ {b:Addr} {o:HO},H' b=some o→upd H' t (.tup [V.int (x.1:Nat),V.int (x.2:Nat)]) b=some o:=fun e=>by rw [zac (zag e ht)];exact e
    have hB':But (L.pl (.words i)) H0 (upd H' t (.tup [V.int (x.1:Nat),V.int (x.2:Nat)])):=fun b o e hb=>nt (hB b o e hb);have hcs:=hB' _ _ hC.case (hne hC.case (by intro _ z;cases z))
    have hwt:=hB' _ _ hC.weights (hne hC.weights (by intro _ z;cases z))
    have ht':(q.words.take (j+1)).foldl (balStep A.weights out) 0=balStep A.weights out ((q.words.take j).foldl (balStep A.weights out) 0) x:=by
     rw [List.take_add_one,hx,List.foldl_append];rfl
    walk_at "rd2"
    refine ⟨_,SqT.of zaa,rfl,_,_,rfl,_,_,rfl,rfl,_,rfl,Int.natCast_nonneg _,?_⟩;by_cases hb:out.testBit x.1=false
    ·rw [if_pos ((zxv out x.1).mpr hb)];refine fget hcs CC.cl CC.n4 (zez ..) ⟨_,rfl,_,_,rfl,SqL.of hwt,V.int (A.weights.getD x.1 0:Nat),zaj ?_,rfl,?_⟩
     ·rw [List.getElem?_map,List.getElem?_eq_getElem hxl,List.getD_eq_getElem?_getD,List.getElem?_eq_getElem hxl];rfl
     ·by_cases h1:x.2=1
      ·rw [if_pos (by rw [h1];rfl)]
       refine ⟨_,rfl,some (V.int (x.1:Nat)),some (V.int (x.2:Nat)),some (V.int (A.weights.getD x.1 0:Nat)),?_,nt hfz,hB'⟩;rw [ht',bal1 hb h1];rfl
      ·rw [if_neg (by intro z;exact h1 (by have:=V.int.inj z;omega))]
       refine ⟨_,rfl,some (V.int (x.1:Nat)),some (V.int (x.2:Nat)),some (V.int (A.weights.getD x.1 0:Nat)),?_,nt hfz,hB'⟩;rw [ht',bal2 hb h1];rfl
    ·rw [if_neg (fun z=>hb ((zxv out x.1).mp z))];refine ⟨some (V.int (x.1:Nat)),some (V.int (x.2:Nat)),v6,?_,nt hfz,hB'⟩;rw [ht',bal3 hb];rfl
   ·rintro σ H' ⟨v4,v5,v6,rfl,hfz,hB⟩;have hlen:(wordsK q).length=q.words.length:=List.length_map _;rw [hlen,List.take_length];refine ⟨hfz,hRR _ _ ⟨v4,v5,v6,rfl,fun b o e=>?_⟩⟩;by_cases hb:b=L.pl (.words i)
    ·subst hb;rw [zaa,←hwd,e]
    ·rw [zac hb];exact hB b o e hb
  ·rintro σ1 H1 ⟨v4,v5,v6,rfl,S1⟩;walk_at "rd2"
   have hk:=k H1 S1;unfold vWit at hk;by_cases h0:balance A.weights out q=0
   ·rw [if_pos h0] at hk ⊢;exact hk
   ·rw [if_neg h0] at hk ⊢;by_cases h1:0<balance A.weights out q
    ·rw [if_pos h1] at hk ⊢;exact hk
    ·rw [if_neg h1] at hk ⊢;exact hk
end
end
section
open PySem PySem.Spec PyProof.Rows L2
open RgCase (Bytes ascii nameOk claimName cutAt Line Cond Name Case)
section
variable {P:Program}{w:World}{K:PySem.W.Frag}{mg:Str→Option Value}{base:Heap}{ad:Ads}{cd:Cds}
def outV (o:Nat×Nat):List V:=[.int (o.1:Nat),.int (o.2:Nat)]
def zd8 (cd:Cds):Sp:=fun vs H Q _=>∃ (L:Lay) (A:Abs) (i out facts:Nat) (q:ClaimA),vs=[.ref (L.pl .case),.ref (L.pl (.claim i)),.int out,.int facts]∧Cells cd H L A∧A.claims[i]? = some q∧q.rules.length≤1000∧
 (∀ x∈q.words,x.1<A.weights.length)∧∀ H' t,H' t=some (.tup (outV (settleA A.weights out facts q)))→H t=none→Same H H'→Q (.ref t) H'
abbrev zcm:Stmt:=top 33
theorem zgy:FnScope ["case","claim","without","facts","verdict"] ["case","claim","without","facts"] (defScope zcm):=⟨rfl,rfl,rfl,by decide +kernel,rfl,by decide +kernel,by decide +kernel⟩
theorem zmd:BindOk "settle_claim" "settle_claim" zcm ["case","claim","without","facts"]:=fun _ _ _ _ _ _=>ls4 fun _ _ _ _=>rfl
theorem zlu (D:DefAt K mg "settle_claim" zcm)(T:TxtR mg)(CM:ClsClaim K cd.cClaim)(O_verdict_of_rules:Own P w K mg base "verdict_of_rules" 3 ["claim","facts"] (zcp cd))(O_verdict_of_witnesses:Own P w K mg base "verdict_of_witnesses" 1 ["case","claim","without"] (zbs cd)):Own P w K mg base "settle_claim" 4 ["case","claim","without","facts"] (zd8 cd):=by
 refine za5 D zgy zmd (fun vs H Q E h=>?_) (fun f cdv A outer s H vs Q E hr h=>?_)
 ·obtain ⟨L,A,i,out,facts,q,rfl,_⟩:=h;rfl
 ·obtain ⟨L,A,i,out,facts,q,rfl,hC,hq,hl,hws,k⟩:=h;refine ⟨_,(zad (zav (zai zmp (zah (pv 1) rfl) zan (nomark _)) (zae (zak (zc7 (zab (zah (pv 1) rfl) (zab (zal T.g_BY_SIGHT) zaf))))) zam)
   (zad (zat (i:=4) zgy.nd rfl (Or.inl rfl) (zar O_verdict_of_rules (hr.mono (by decide)) (zab (pv 1) (zab (pv 3) zaf))))
   (zad (zav (zai zmp (pv 4) zan (nomark _)) (zae (zak (zc7 (zab (pv 4) (zab (zal T.g_BY_RULES) zaf))))) zam)
   (zae (zak (zc7 (zab (zar O_verdict_of_witnesses (hr.mono (by decide)) (zab (pv 0) (zab (pv 1) (zab (pv 2) zaf)))) (zab (zal T.g_BY_WITNESSES) zaf)))))))),?_⟩
  unfold settleA at k;walk_at "rd2"
  refine fget (hC.claim hq) CM.cl CM.n1 (zl9 ..) ⟨rfl,?_⟩;simp only [V.int.injEq];by_cases h0:q.known≠0
  ·rw [if_pos h0] at k;rw [if_pos (by omega)]
   exact fget (hC.claim hq) CM.cl CM.n1 (zl9 ..) ⟨by decide,fun t ht=>k _ t zaa ht (Same.new ht)⟩
  ·rw [if_neg h0] at k;rw [if_neg (by omega)]
   refine ⟨L,A,i,facts,q,rfl,hC,hq,hl,fun H1 S1=>⟨rfl,?_⟩⟩;simp only [V.int.injEq];by_cases h1:vRules facts q≠0
   ·rw [if_pos h1] at k;rw [if_pos (by omega)]
    exact ⟨by decide,fun t ht=>k _ t zaa (S1.free ht) (S1.trans (Same.new ht))⟩
   ·rw [if_neg h1] at k;rw [if_neg (by omega)]
    refine ⟨L,A,i,out,q,rfl,hC.same S1,hq,hws,fun H2 S2=>⟨by decide,fun t ht=>?_⟩⟩
    have S3:=S1.trans S2;exact k _ t zaa (S3.free ht) (S3.trans (Same.new ht))
structure ProofAt (cd:Cds)(H:Hp)(p l:Addr)(ts:List Addr)(os:List (Nat×Nat)):Prop where
 obj:∃ dx,H p=some (.ins cd.cProof dx (proofF l (factsL os)))
 lst:H l=some (.lst (ts.map V.ref))
 tup:Paired (fun t o=>H t=some (.tup (outV o))) ts os
theorem ProofAt.same {H H':Hp}{p l:Addr}{ts:List Addr}{os:List (Nat×Nat)}(h:ProofAt cd H p l ts os)(s:Same H H'):ProofAt cd H' p l ts os:=by
 obtain ⟨⟨dx,h1⟩,h2,h3⟩:=h;exact ⟨⟨dx,s _ _ h1⟩,s _ _ h2,Paired.zfc h3 fun q _ _ hq=>s _ _ hq⟩
def stP (cd:Cds)(H:Hp)(L:Lay)(c:Case)(out:Nat)(p l:Addr)(i:Nat)(σ:L2.St)(H':Hp):Prop:=∃ (v3 v4 v5:Option V) (ts:List Addr),σ=[some (.ref (L.pl .case)),some (.int out),some (.ref p),v3,v4,v5]∧ProofAt cd H' p l ts ((outs c out).take i)∧Same H H'∧∀ t∈ts,H t=none
def zlh (cd:Cds):Sp:=fun vs H Q _=>∃ (L:Lay) (c:Case) (out:Nat),vs=[.ref (L.pl .case),.int out]∧Cells cd H L (absOf c)∧Valid c∧
 ∀ H' p l ts,ProofAt cd H' p l ts (outs c out)→H p=none→H l=none→(∀ t∈ts,H t=none)→Same H H'→Q (.ref p) H'
abbrev zij:Stmt:=top 34
theorem zgz:FnScope ["case","without","proof","number","claim","outcome"] ["case","without"] (defScope zij):=⟨rfl,rfl,rfl,by decide +kernel,rfl,by decide +kernel,by decide +kernel⟩
theorem bd_settle:BindOk "settle" "settle" zij ["case","without"]:=fun _ _ _ _ _ _=>ls2 fun _ _=>rfl
theorem ok_settle (D:DefAt K mg "settle" zij)(T:TxtR mg)(CC:ClsCase K cd.cCase)(CP:ClsProof K cd.cProof)(O_Proof:OwnC P w K mg base "Proof" cd.cProof 1 ["self"] (zfw cd))(O_settle_claim:Own P w K mg base "settle_claim" 4 ["case","claim","without","facts"] (zd8 cd))(O_fact:Own P w K mg base "fact" 1 ["verdict","number"] zok):Own P w K mg base "settle" 5 ["case","without"] (zlh cd):=by
 refine za5 D zgz bd_settle (fun vs H Q E h=>?_) (fun f cdv A outer s H vs Q E hr h=>?_)
 ·obtain ⟨L,c,out,rfl,_⟩:=h;rfl
 ·obtain ⟨L,c,out,rfl,hC,hv,k⟩:=h;obtain ⟨vb1,vb2,vb3⟩:=zbe hv;have hol:=zhl c out;refine ⟨_,(zad (zat (i:=2) zgz.nd rfl (Or.inl rfl) (zf2 O_Proof (hr.mono (by decide))))
   (zad (zim PassesOwn.never rfl (pi_enum rfl T.b_enumerate (zab (zah (pv 0) rfl) zaf)) (zra rfl (zdm (zbj (i:=3) zgz.nd rfl (Or.inl rfl)) (zdm (zbj (i:=4) zgz.nd rfl (Or.inl rfl)) zlp)))
    (zad (zat (i:=5) zgz.nd rfl (Or.inl rfl) (zar O_settle_claim (hr.mono (by decide)) (zab (pv 0) (zab (pv 4) (zab (pv 1) (zab (zah (pv 2) rfl) zaf))))))
   (zad (zcr (zox PySem.F.plainAttrs_list PySem.F.slot_list_append PySem.F.type_list_append zdu (zah (pv 2) rfl) (zab (pv 5) zaf)))
   (zae (zbc (pv 2) (zc6 op_or (zah (pv 2) rfl) (zar O_fact (hr.mono (by decide)) (zab (zbt zl4 (pv 5) zan (fun _ _=>rfl)) (zab (pv 3) zaf)))) rfl)))))
   (zae (zak (pv 2))))),?_⟩
  refine zaq (fun σ' H'=>∃ p l,σ'=[some (.ref (L.pl .case)),some (.int out),some (.ref p),none,none,none]∧ProofAt cd H' p l [] []∧H p=none∧H l=none∧Same H H') ?_ ?_
  ·intro RR hRR;walk_at "rd2"
   intro p dx np nd ndp;exact ⟨p,dx,rfl,zaa,fun H1 l h1 h2 n1 hB=>⟨rfl,hRR _ _ ⟨p,l,rfl,⟨⟨dx,h1⟩,h2,.nil⟩,np,zb1 n1,zfk np nd hB⟩⟩⟩
  rintro σ1 H1 ⟨p,l,rfl,hP1,np,nl,S1⟩;refine zaq (stP cd H L c out p l (RgCase.claims c).length) ?_ ?_
  ·intro RR hRR;have hC1:=hC.same S1;refine ⟨_,rfl,_,_,_,_,_,rfl,hC1.case,CC.cl,CC.n2,zdn ..,_,_,rfl,SqL.of hC1.claims,for_enumL (K:=K) (a:=L.pl .claims) (xs:=refs (fun i=>L.pl (.claim i)) (absOf c).claims.length) (stP cd H L c out p l) ⟨none,none,none,[],rfl,hP1,S1,by simp⟩
    (fun i σ H' _ ⟨_,_,_,_,_,_,S',_⟩=>SqL.of (S' _ _ hC.claims)) ?_ ?_⟩
   ·rintro i y σ H' t hy ⟨v3,v4,v5,ts,rfl,hP,S',hts⟩ ht;have hi:i<(RgCase.claims c).length:=by
     have:=(List.getElem?_eq_some_iff.mp hy).1;rw [zci,za9] at this;exact this
    rw [zk4 (by rw [za9];exact hi)] at hy
    cases hy;obtain ⟨n,hn⟩:∃ n,(RgCase.claims c)[i]? = some n:=⟨_,List.getElem?_eq_getElem hi⟩;have hq:(absOf c).claims[i]? = some (claimA c n):=by
     show ((RgCase.claims c).map (claimA c))[i]? = _;rw [List.getElem?_map,hn];rfl
    have hstep:=outs_step hv out hn;have htl:((outs c out).take i).length=i:=by rw [List.length_take,hol];omega
    have St:Same H' (upd H' t (.tup [.int (i:Nat),V.ref (L.pl (.claim i))])):=Same.new ht;walk_at "rd2"
    refine ⟨_,SqT.of zaa,rfl,_,_,rfl,_,_,rfl,rfl,?_⟩;have S2:=S'.trans St;have hP2:=hP.same St;obtain ⟨dx,hobj⟩:=hP2.obj;refine fget hobj CP.cl CP.n2 (zin ..) ⟨L,absOf c,i,out,factsL ((outs c out).take i),claimA c n,rfl,hC.same S2,hq,?_,?_,fun H3 tt h3 n3 S3=>?_⟩
    ·have:=zlj (c:=c) n;omega
    ·intro x hx;have:=zn3 x hx;show x.1<(weights c).length;unfold weights;rw [List.length_map];exact this
    have hP3:=hP2.same S3;have hobj3:=S3 _ _ hobj;obtain ⟨o,ho⟩:∃ o,o=settleA (weights c) out (factsL ((outs c out).take i)) (claimA c n):=⟨_,rfl⟩;have h3':H3 tt=some (.tup (outV o)):=by rw [ho];exact h3
    have npl:l≠p:=zdd hP3.lst hobj3 (by intro z;cases z)
    have hlen:ts.length=i:=by rw [←htl];exact Paired.length hP3.tup
    refine fget hobj3 CP.cl CP.n1 (zio ..) ⟨.inl ⟨rfl,_,SqL.of hP3.lst⟩,_,rfl,_,hP3.lst,by rw [List.length_map];exact small (by omega),?_⟩
    have htp:tt≠l:=zdd h3' hP3.lst (by intro z;cases z)
    have hobj4:upd H3 l (.lst (ts.map V.ref++[V.ref tt])) p=some (.ins cd.cProof dx (proofF l (factsL ((outs c out).take i)))):=by rw [zac (Ne.symm npl)];exact hobj3
    refine fget hobj4 CP.cl CP.n2 (zin ..) ⟨_,rfl,outV o,SqT.of (by rw [zac htp];exact h3'),_,zaj (j:=0) rfl,?_⟩
    have ho3:o.1≤3:=by
     have hm:o∈(outs c out).take (i+1):=by rw [hstep,ho];simp
     exact ztm c out o (List.mem_of_mem_take hm)
    refine ⟨o.1,i,rfl,ho3,by omega,_,rfl,_,rfl,_,_,_,hobj4,CP.cl,CP.n2,(by show 2<1000;decide),?_⟩
    rw [zsg];refine ⟨_,_,_,ts++[tt],rfl,⟨⟨dx,?_⟩,?_,?_⟩,?_,fun z hz=>?_⟩
    ·rw [zaa];have e:factsL ((outs c out).take (i+1))=factsL ((outs c out).take i) ||| bitOf o.1 i:=by
      rw [hstep,zt9,htl,←ho]
     rw [e];rfl
    ·rw [zac npl,zaa,List.map_append];rfl
    ·rw [hstep,←ho];refine Paired.snoc (Paired.zfc hP3.tup fun q _ _ hq=>?_) ?_
     ·rw [zac (zdd hq hobj3 (by intro z;cases z)),zac (zdd hq hP3.lst (by intro z;cases z))]
      exact hq
     ·rw [zac (zdd h3' hobj3 (by intro z;cases z)),zac htp]
      exact h3'
    ·exact HC.Same.upd (HC.Same.upd (S2.trans S3) nl) np
    ·rcases List.mem_append.mp hz with hz | hz
     ·exact hts z hz
     ·rw [List.mem_singleton.mp hz];exact S2.free n3
   ·rintro σ H' h;rw [zci,za9] at h;exact hRR _ _ h
  rintro σ2 H2 ⟨v3,v4,v5,ts,rfl,hP,S2,hts⟩;rw [←hol,List.take_length] at hP;walk_at "rd2"
  exact k H2 p l ts hP np nl hts S2
end
end
section
open PySem PySem.Spec PyProof.Rows L2
open RgCase (Bytes ascii nameOk claimName cutAt Line Cond Name Case)
section
variable {P:Program}{w:World}{K:PySem.W.Frag}{mg:Str→Option Value}{base:Heap}{ad:Ads}{cd:Cds}
def penV (x:Nat×Nat):List V:=[.int (x.1:Nat),.int (x.2:Nat)]
structure BoatAt (cd:Cds)(H:Hp)(p pn rd:Addr)(ts:List Addr)(q:BoatA):Prop where
 obj:∃ dx,H p=some (.ins cd.cBoat dx (boatF pn rd))
 pens:H pn=some (.lst (ts.map V.ref))
 tup:Paired (fun t x=>H t=some (.tup (penV x))) ts q.pens
 reds:H rd=some (.lst (q.reds.map fun (n:Nat)=>V.int n))
theorem BoatAt.same {H H':Hp}{p pn rd:Addr}{ts:List Addr}{q:BoatA}(h:BoatAt cd H p pn rd ts q)(s:Same H H'):BoatAt cd H' p pn rd ts q:=by
 obtain ⟨⟨dx,h1⟩,h2,h3,h4⟩:=h;exact ⟨⟨dx,s _ _ h1⟩,s _ _ h2,Paired.zfc h3 fun q _ _ hq=>s _ _ hq,s _ _ h4⟩
theorem znp {α β:Type}{R:α→β→Prop}{g:Nat→α}:∀ {m:List β} {k:Nat},(∀ j x,m[j]? = some x→R (g (k+j)) x)→Paired R ((List.range' k m.length).map g) m
 | [],_,_=>.nil
 | x::m,k,h=>.cons (by simpa using h 0 x rfl) (by
  have:=znp (R:=R) (g:=g) (m:=m) (k:=k+1) fun j y e=>by
   have:=h (j+1) y (by simpa using e)
   rw [show k+1+j=k+(j+1) by omega]
   exact this
  exact this)
theorem Cells.boatAt {H:Hp}{L:Lay}{A:Abs}(h:Cells cd H L A){k:Nat}{q:BoatA}(e:A.boats[k]? = some q):
  BoatAt cd H (L.pl (.boat k)) (L.pl (.pens k)) (L.pl (.reds k)) ((List.range' 0 q.pens.length).map fun j=>L.pl (.pen k j)) q:=by
 refine ⟨⟨_,h.boat e⟩,?_,znp fun j x hx=>?_,h.reds e⟩
 ·rw [h.pens e,List.map_map];unfold refs;rw [List.range_eq_range'];rfl
 ·rw [Nat.zero_add];exact h.pen e hx
def zdy (cd:Cds):Sp:=fun vs H Q _=>∃ (p pn rd:Addr) (ts:List Addr) (q:BoatA) (facts:Nat),vs=[.ref p,.int facts]∧BoatAt cd H p pn rd ts q∧q.pens.length≤1000∧∀ H',Same H H'→Q (.int (penMax facts q:Nat)) H'
abbrev zcs:Stmt:=top 35
theorem zd0:FnScope ["boat","facts","points","needed"] ["boat","facts"] (defScope zcs):=⟨rfl,rfl,rfl,by decide +kernel,rfl,by decide +kernel,by decide +kernel⟩
theorem zp1:BindOk "penalty_of" "penalty_of" zcs ["boat","facts"]:=fun _ _ _ _ _ _=>ls2 fun _ _=>rfl
theorem zo3 (D:DefAt K mg "penalty_of" zcs)(T:TxtR mg)(CB:ClsBoat K cd.cBoat)(O_all_hold:Own P w K mg base "all_hold" 1 ["needed","facts"] zc9):Own P w K mg base "penalty_of" 2 ["boat","facts"] (zdy cd):=by
 refine za5 D zd0 zp1 (fun vs H Q E h=>?_) (fun f cdv A outer s H vs Q E hr h=>?_)
 ·obtain ⟨p,pn,rd,ts,q,facts,rfl,_⟩:=h;rfl
 ·obtain ⟨p,pn,rd,ts,q,facts,rfl,hB,hl,k⟩:=h;obtain ⟨dx,hp⟩:=hB.obj;refine ⟨_,(zae (zak (pe_maxD rfl (by rfl) T.b_max boot_max (zab (ztk (own:=[("points",2),("needed",3)]) (g:=gTup K 2 (gCons (gName 2) (gCons (gName 3) gNil))) rfl zd0.nd (zfb (zah (pv 0) rfl)) (ze0 (N:=["boat","facts","points","needed"]) (sc:=defScope zcs) (by decide +kernel)) (fun _ _ _ _ _=>by exact (zra rfl (zdm (zbj (i:=2) zd0.nd rfl (Or.inl rfl)) (zdm (zbj (i:=3) zd0.nd rfl (Or.inl rfl)) zlp)))) (fun _ _ _ _ _=>(zti (zev (zar O_all_hold (hr.mono (by decide)) (zab (pv 3) (zab (pv 1) zaf)))))) (fun _ _ _ _ _=>(pv 2))) zaf) (pk_cons zan pk_nil)))),?_⟩
  walk_at "rd2"
  refine ⟨_,rfl,_,_,_,_,_,rfl,hp,CB.cl,CB.n1,zvn ..,_,rfl,⟨_,SqL.of hB.pens⟩,fun r hr=>?_⟩;have hlen:ts.length=q.pens.length:=Paired.length hB.tup;refine zjo (K:=K) (a:=pn) (xs:=ts.map V.ref) (fun j H2=>Same H H2∧H2 r=some (.lst (((q.pens.take j).filter fun x=>holdsN facts x.2).map fun x=>V.int (x.1:Nat)))) ⟨Same.new hr,zaa⟩ (fun j H2 _ ⟨S2,_⟩=>SqL.of (S2 _ _ hB.pens)) ?_ ?_
  ·rintro j y H2 hy ⟨S2,h2⟩;rw [List.getElem?_map] at hy;cases et:ts[j]? with
   | none=>rw [et] at hy;cases hy
   | some t=>
    rw [et] at hy;cases hy;obtain ⟨x,hx,htx⟩:=zcu hB.tup et;have htx2:=S2 _ _ htx;have hz:q.pens.take (j+1)=q.pens.take j++[x]:=by rw [List.take_add_one,hx];rfl
    refine ⟨_,_,rfl,SqT.of htx2,rfl,_,_,rfl,_,_,rfl,rfl,rfl,?_⟩;refine ⟨_,rfl,_,rfl,x.2,facts,rfl,_,rfl,?_⟩;show (if holdsN facts x.2=true then _ else _)
    by_cases hh:holdsN facts x.2=true
    ·rw [if_pos hh];refine ⟨_,rfl,_,h2,?_,HC.Same.upd S2 hr,?_⟩
     ·rw [List.length_map];refine Nat.lt_of_le_of_lt (Nat.le_trans (List.length_filter_le _ _) ?_) (small hl);rw [List.length_take];omega
     ·rw [zaa,hz,List.filter_append,List.map_append];simp [hh]
    ·rw [if_neg hh];refine ⟨S2,?_⟩;rw [h2,hz,List.filter_append];simp [hh]
  ·rintro H2 ⟨S2,h2⟩;rw [List.length_map,hlen,List.take_length] at h2;have e:(((q.pens.filter fun x=>holdsN facts x.2).map fun x=>V.int (x.1:Nat)))=((penA facts q).map fun (n:Nat)=>(n:Int)).map V.int:=by
    unfold penA;rw [List.map_map,List.map_map];rfl
   rw [e] at h2;refine ⟨_,rfl,_,SqL.of h2,fun hz=>?_,fun m hm hmax=>?_⟩
   ·have hz':penA facts q=[]:=by simpa using hz
    have:=k H2 S2;unfold penMax at this;rw [hz'] at this;exact this
   ·obtain ⟨n,hn,rfl⟩:=List.mem_map.mp hm;have:=k H2 S2;unfold penMax at this;rw [max_is hn fun y hy=>by
     have:=hmax (y:Int) (List.mem_map.mpr ⟨y,hy,rfl⟩);omega] at this
    exact this
def ze4 (cd:Cds):Sp:=fun vs H Q _=>∃ (p pn rd:Addr) (ts:List Addr) (q:BoatA) (facts:Nat),vs=[.ref p,.int facts]∧BoatAt cd H p pn rd ts q∧q.pens.length≤1000∧q.reds.length≤1000∧
 ∀ H',Same H H'→Q (.bl (penMax facts q==0&&redA facts q)) H'
abbrev zcg:Stmt:=top 36
theorem ze8:FnScope ["boat","facts","needed"] ["boat","facts"] (defScope zcg):=⟨rfl,rfl,rfl,by decide +kernel,rfl,by decide +kernel,by decide +kernel⟩
theorem zm8:BindOk "has_redress" "has_redress" zcg ["boat","facts"]:=fun _ _ _ _ _ _=>ls2 fun _ _=>rfl
theorem zms (D:DefAt K mg "has_redress" zcg)(T:TxtR mg)(CB:ClsBoat K cd.cBoat)(O_all_hold:Own P w K mg base "all_hold" 1 ["needed","facts"] zc9)(O_penalty_of:Own P w K mg base "penalty_of" 2 ["boat","facts"] (zdy cd)):
  Own P w K mg base "has_redress" 3 ["boat","facts"] (ze4 cd):=by
 refine za5 D ze8 zm8 (fun vs H Q E h=>?_) (fun f cdv A outer s H vs Q E hr h=>?_)
 ·obtain ⟨p,pn,rd,ts,q,facts,rfl,_⟩:=h;rfl
 ·obtain ⟨p,pn,rd,ts,q,facts,rfl,hB,hl,hl2,k⟩:=h;obtain ⟨dx,hp⟩:=hB.obj;refine ⟨_,(zad (zav (zai zoz (zar O_penalty_of (hr.mono (by decide)) (zab (pv 0) (zab (pv 1) zaf))) zan (nomark _)) (zae (zak zmo)) zam)
   (zae (zak (zao (cr_any rfl) (by rfl) T.b_any boot_any (zab (ztk (own:=[("needed",2)]) rfl ze8.nd (zfb (zah (pv 0) rfl)) (ze0 (N:=["boat","facts","needed"]) (sc:=defScope zcg) (by decide +kernel)) (fun _ _ _ _ _=>(zbj (i:=2) ze8.nd rfl (Or.inl rfl))) (fun _ _ _ _ _=>zln) (fun _ _ _ _ _=>(zar O_all_hold (hr.mono (by decide)) (zab (pv 2) (zab (pv 1) zaf))))) zaf))))),?_⟩
  refine zaq (fun σ' H'=>σ'=[some (.ref p),some (.int facts),none]∧penMax facts q=0∧Same H H') ?_ ?_
  ·intro RR hRR;walk_at "rd2"
   refine ⟨p,pn,rd,ts,q,facts,rfl,hB,hl,fun H1 S1=>⟨_,rfl,?_⟩⟩;by_cases h0:penMax facts q=0
   ·rw [if_neg (by rw [h0];decide)]
    exact hRR _ _ ⟨rfl,h0,S1⟩
   ·rw [if_pos (by omega)]
    have:=k H1 S1;rw [beq_eq_false_iff_ne.mpr h0,Bool.false_and] at this;exact this
  ·rintro σ1 H1 ⟨rfl,h0,S1⟩;have hB1:=hB.same S1;walk_at "rd2"
   refine ⟨_,rfl,_,_,_,_,_,rfl,S1 _ _ hp,CB.cl,CB.n2,zvm ..,_,rfl,⟨_,SqL.of hB1.reds⟩,fun r hr=>?_⟩;refine zjo (K:=K) (a:=rd) (xs:=q.reds.map fun (n:Nat)=>V.int n) (fun j H2=>Same H1 H2∧H2 r=some (.lst ((q.reds.take j).map fun n=>V.bl (holdsN facts n)))) ⟨Same.new hr,zaa⟩ (fun j H2 _ ⟨S2,_⟩=>SqL.of (S2 _ _ hB1.reds)) ?_ ?_
   ·rintro j y H2 hy ⟨S2,h2⟩;rw [List.getElem?_map] at hy;cases et:q.reds[j]? with
    | none=>rw [et] at hy;cases hy
    | some n=>
     rw [et] at hy;cases hy;have hj:=(List.getElem?_eq_some_iff.mp et).1;refine ⟨rfl,?_⟩;simp only [tYes,if_true];refine ⟨_,rfl,_,rfl,n,facts,rfl,_,h2,?_,HC.Same.upd S2 hr,?_⟩
     ·rw [List.length_map,List.length_take];exact small (by omega)
     ·rw [zaa,List.take_add_one,et];simp
   ·rintro H2 ⟨S2,h2⟩;rw [List.length_map,List.take_length] at h2;have e:(q.reds.map fun n=>V.bl (holdsN facts n))=(q.reds.map fun n=>holdsN facts n).map V.bl:=by rw [List.map_map];rfl
    rw [e] at h2;refine ⟨r,_,rfl,SqL.of h2,?_⟩;have:=k H2 (S1.trans S2);rw [h0,beq_self_eq_true,Bool.true_and] at this;have e2:(q.reds.map fun n=>holdsN facts n).any id=redA facts q:=by unfold redA;rw [List.any_map];rfl
    rw [e2];exact this
end
end
section
open PySem PySem.Spec PyProof.Rows L2
open RgCase (Bytes ascii nameOk claimName cutAt Line Cond Name Case numbersIn)
section
variable {P:Program}{w:World}{K:PySem.W.Frag}{mg:Str→Option Value}{base:Heap}{ad:Ads}{cd:Cds}
theorem zwf {b:Nat}(hb:b<256):(List.range (Builtin.Int.intBits (b:Int))).filter (fun i=>b.testBit i)=numbersIn b:=by
 have h:∀ n:_root_.Fin 256,(List.range (Builtin.Int.intBits (n.1:Int))).filter (fun i=>n.1.testBit i)=numbersIn n.1:=by decide +kernel
 exact h ⟨b,hb⟩
theorem bits_le {b:Nat}(hb:b<256):Builtin.Int.intBits (b:Int)≤8:=by
 have h:∀ n:_root_.Fin 256,Builtin.Int.intBits (n.1:Int)≤8:=by decide +kernel
 exact h ⟨b,hb⟩
theorem zxu (n m:Nat):(Builtin.bitAnd ((n:Int) / 2^(m:Int).toNat) 1=1)↔n.testBit m=true:=by
 have e1:(n:Int) / 2^(m:Int).toNat=((n / 2^m:Nat):Int):=by
  rw [show (m:Int).toNat=m by omega]
  simp
 rw [e1,show (1:Int)=((1:Nat):Int) from rfl,zjt,Nat.and_one_is_mod,Nat.testBit_eq_decide_div_mod_eq,decide_eq_true_iff]
 omega
def natV (l:List Nat):List V:=l.map fun (n:Nat)=>V.int n
def zdz:Sp:=fun vs H Q _=>∃ b:Nat,vs=[.int b]∧b<256∧∀ (H':Hp) (r:Addr),H' r=some (.lst (natV (numbersIn b)))→H r=none→Same H H'→Q (.ref r) H'
abbrev zct:Stmt:=top 37
theorem zfy:FnScope ["bits","number"] ["bits"] (defScope zct):=⟨rfl,rfl,rfl,by decide +kernel,rfl,by decide +kernel,by decide +kernel⟩
theorem zp2:BindOk "members_of" "members_of" zct ["bits"]:=fun _ _ _ _ _ _=>ls1 fun _=>rfl
theorem zo4 (D:DefAt K mg "members_of" zct)(T:TxtR mg):Own P w K mg base "members_of" 1 ["bits"] zdz:=by
 refine za5 D zfy zp2 (fun vs H Q E h=>?_) (fun f cdv A outer s H vs Q E hr h=>?_)
 ·obtain ⟨b,rfl,_⟩:=h;rfl
 ·obtain ⟨b,rfl,hb,k⟩:=h;refine ⟨_,(zae (zak (ztk (own:=[("number",1)]) rfl zfy.nd (pi_range1 rfl T.b_range (zab (pe_bm0 PySem.F.plainAttrs_int PySem.F.slot_int_bit_length PySem.F.type_int_bit_length mt_bits (pv 0)) zaf)) (ze0 (N:=["bits","number"]) (sc:=defScope zct) (by decide +kernel)) (fun _ _ _ _ _=>(zbj (i:=1) zfy.nd rfl (Or.inl rfl))) (fun _ _ _ _ _=>(zti (zai zcd (zc6 op_and (zc6 op_shr (pv 0) (pv 1)) zan) zan (nomark _)))) (fun _ _ _ _ _=>(pv 1))))),?_⟩
  walk_at "rd2"
  have hbl:=bits_le hb;refine ⟨_,rfl,rfl,_,rfl,rfl,_,rfl,by omega,by omega,fun r hr=>?_⟩
  rw [show ((Builtin.Int.intBits (b:Int):Nat):Int).toNat=Builtin.Int.intBits (b:Int) by omega]
  refine lc_range (n:=Builtin.Int.intBits (b:Int)) (fun j H2=>Same H H2∧H2 r=some (.lst (natV ((List.range j).filter fun i=>b.testBit i)))) ⟨Same.new hr,zaa⟩ ?_ ?_
  ·rintro j H2 hj ⟨S2,h2⟩;rw [Int.zero_add];refine ⟨rfl,?_⟩;have hz:List.range (j+1)=List.range j++[j]:=List.range_succ;show tTest _ [some (V.int b),some (V.int (j:Nat))] H2 _;walk_at "rd2"
   refine ⟨Int.natCast_nonneg _,?_⟩;by_cases hh:b.testBit j=true
   ·rw [if_pos ((zxu b j).mpr hh)];refine ⟨_,rfl,_,h2,?_,HC.Same.upd S2 hr,?_⟩
    ·unfold natV;rw [List.length_map];refine Nat.lt_of_le_of_lt (List.length_filter_le _ _) (small ?_);rw [List.length_range];omega
    ·rw [zaa,hz,List.filter_append];unfold natV;rw [List.map_append];simp [hh]
   ·rw [if_neg fun z=>hh ((zxu b j).mp z)];refine ⟨S2,?_⟩;rw [h2,hz,List.filter_append];simp [hh]
  ·rintro H2 ⟨S2,h2⟩;rw [zwf hb] at h2;exact k H2 r h2 hr S2
def zd2:Sp:=fun vs H Q _=>∃ b:Nat,vs=[.int b]∧b<256∧∀ (H':Hp) (t l:Addr),H' t=some (.tup [.int ((numbersIn b).length:Nat),.ref l])→H' l=some (.lst (natV (numbersIn b)))→H t=none→H l=none→Same H H'→Q (.ref t) H'
abbrev zg4:Stmt:=top 38
theorem znk:FnScope ["bits","members"] ["bits"] (defScope zg4):=⟨rfl,rfl,rfl,by decide +kernel,rfl,by decide +kernel,by decide +kernel⟩
theorem zw8:BindOk "rank_of" "rank_of" zg4 ["bits"]:=fun _ _ _ _ _ _=>ls1 fun _=>rfl
theorem zwa (D:DefAt K mg "rank_of" zg4)(T:TxtR mg)(O_members_of:Own P w K mg base "members_of" 1 ["bits"] zdz):Own P w K mg base "rank_of" 2 ["bits"] zd2:=by
 refine za5 D znk zw8 (fun vs H Q E h=>?_) (fun f cdv A outer s H vs Q E hr h=>?_)
 ·obtain ⟨b,rfl,_⟩:=h;rfl
 ·obtain ⟨b,rfl,hb,k⟩:=h;refine ⟨_,(zad (zat (i:=1) znk.nd rfl (Or.inl rfl) (zar O_members_of (hr.mono (by decide)) (zab (pv 0) zaf)))
   (zae (zak (zc7 (zab (zao zap (by rfl) T.b_len PySem.boot_len (zab (pv 1) zaf)) (zab (pv 1) zaf)))))),?_⟩
  walk_at "rd2"
  refine ⟨b,rfl,hb,fun H1 l hl nl S1=>⟨_,lenL hl,by decide,fun t ht=>?_⟩⟩
  have e:(natV (numbersIn b)).length=(numbersIn b).length:=List.length_map _;rw [e];refine k _ t l zaa ?_ (S1.free ht) nl (S1.trans (Same.new ht));rw [zac (zag hl ht)];exact hl
end
end
section
open PySem PySem.Spec PyProof.Rows L2
open RgCase (Bytes ascii nameOk claimName cutAt Line Cond Name Case numbersIn caseText)
structure ClsDesk (K:PySem.W.Frag)(C:Addr):Prop where
 cl:Cls K C
 n1:NoAttr K C "text"
 n2:NoAttr K C "case"
 n3:NoAttr K C "proofs"
 m1:NoAttr K C "x"
def deskF (a c p:Addr):List (Str×V):=[("text",.ref a),("case",.ref c),("proofs",.ref p)]
def bytV (t:Bytes):List V:=t.map fun c=>V.int (c.toNat:Nat)
structure Dk where
 d:Addr
 dx:Addr
 a:Addr
 L:Lay
 pr:Addr
 ks:List Nat
 g:Nat→Addr
 lg:Nat→Addr
 tg:Nat→List Addr
 c:Case
def Dk.Inner (S:Dk)(cd:Cds)(q:Addr):Prop:=q=S.a∨(∃ t o,obj cd S.L (absOf S.c) t=some o∧q=S.L.pl t)∨∃ o∈S.ks,q=S.g o∨q=S.lg o∨q∈S.tg o
def memoK (S:Dk):List (Key×V):=S.ks.map fun (o:Nat)=>((Sum.inl (o:Int):Key),V.ref (S.g o))
structure DeskIn (cd:Cds)(H:Hp)(S:Dk):Prop where
 text:H S.a=some (.lst (bytV (caseText S.c)))
 cells:Cells cd H S.L (absOf S.c)
 prf:∀ o∈S.ks,ProofAt cd H (S.g o) (S.lg o) (S.tg o) (outs S.c o)
structure DeskRep (cd:Cds)(H0 H:Hp)(S:Dk):Prop where
 obj:H S.d=some (.ins cd.cDesk S.dx (deskF S.a (S.L.pl .case) S.pr))
 inn:DeskIn cd H S
 val:Valid S.c
 memo:H S.pr=some (.dK (memoK S))
 nd:S.ks.Nodup
 small:∀ o∈S.ks,o<256
 npr:∀ q,S.Inner cd q→q≠S.pr∧q≠S.d
 new:∀ q,(S.Inner cd q∨q=S.d∨q=S.pr)→H0 q=none
 same:Same H0 H
 tlen:(caseText S.c).length≤65536
section
variable {cd:Cds}{H0 H H':Hp}{S:Dk}
theorem DeskIn.keep (h:DeskIn cd H S)(k:∀ q o,S.Inner cd q→H q=some o→H' q=some o):DeskIn cd H' S:=by
 refine ⟨k _ _ (.inl rfl) h.text,fun t o e=>k _ _ (.inr (.inl ⟨t,o,e,rfl⟩)) (h.cells t o e),fun o ho=>?_⟩;obtain ⟨⟨dx,h1⟩,h2,h3⟩:=h.prf o ho;exact ⟨⟨dx,k _ _ (.inr (.inr ⟨o,ho,.inl rfl⟩)) h1⟩,k _ _ (.inr (.inr ⟨o,ho,.inr (.inl rfl)⟩)) h2,Paired.zfc h3 fun q hq _ e=>k _ _ (.inr (.inr ⟨o,ho,.inr (.inr hq)⟩)) e⟩
theorem DeskRep.sameR (R:DeskRep cd H0 H S)(h:Same H H'):DeskRep cd H0 H' S:=
 ⟨h _ _ R.obj,R.inn.keep fun q o _ e=>h q o e,R.val,h _ _ R.memo,R.nd,R.small,R.npr,R.new,R.same.trans h,R.tlen⟩
theorem DeskRep.weak {H0':Hp}(R:DeskRep cd H0' H S)(h:Same H0 H0'):DeskRep cd H0 H S:=by
 refine ⟨R.obj,R.inn,R.val,R.memo,R.nd,R.small,R.npr,fun q hq=>?_,h.trans R.same,R.tlen⟩;cases z:H0 q with
 | none=>rfl
 | some u=>
  have:=h _ _ z;rw [R.new q hq] at this;cases this
theorem DeskRep.there (R:DeskRep cd H0 H S):∀ q,(S.Inner cd q∨q=S.d∨q=S.pr)→∃ o,H q=some o:=by
 intro q hq;rcases hq with (rfl | ⟨t,o,e,rfl⟩ | ⟨o,ho,hq⟩) | rfl | rfl
 ·exact ⟨_,R.inn.text⟩
 ·exact ⟨_,R.inn.cells t o e⟩
 ·obtain ⟨⟨dx,h1⟩,h2,h3⟩:=R.inn.prf o ho;rcases hq with rfl | rfl | hq
  ·exact ⟨_,h1⟩
  ·exact ⟨_,h2⟩
  ·obtain ⟨b,hb⟩:∃ b,H q=some (.tup (outV b)):=by
    obtain ⟨i,hi⟩:=List.getElem?_of_mem hq;obtain ⟨b,_,hb⟩:=zcu h3 hi;exact ⟨b,hb⟩
   exact ⟨_,hb⟩
 ·exact ⟨_,R.obj⟩
 ·exact ⟨_,R.memo⟩
theorem DeskRep.besides (R:DeskRep cd H0 H S)(N:Addr→Prop)(hN:∀ q,N q→H q=none)(hs:Same H H'):DeskRep cd (beside H0 H' N) H' S∧Same H0 (beside H0 H' N):=by
 have R1:=R.sameR hs;have S1:Same H0 (beside H0 H' N):=fun q u e=>by
  rw [zd6 fun z=>by have:=hN _ z;rw [R.same _ _ e] at this;cases this]
  exact e
 refine ⟨⟨R1.obj,R1.inn,R1.val,R1.memo,R1.nd,R1.small,R1.npr,fun q hq=>?_,fun q u e=>?_,R1.tlen⟩,S1⟩
 ·obtain ⟨o,ho⟩:=R.there q hq;rw [zd6 fun z=>by have:=hN _ z;rw [ho] at this;cases this]
  exact R.new q hq
 ·by_cases z:N q
  ·rw [zc5 z] at e;exact e
  ·rw [zd6 z] at e;exact R1.same _ _ e
theorem DeskRep.aside {p:Addr}{o0 o:HO}(R:DeskRep cd H0 H S)(h:H0 p=some o0):DeskRep cd (upd H0 p o) (upd H p o) S:=by
 have ne:∀ q,(S.Inner cd q∨q=S.d∨q=S.pr)→q≠p:=fun q hq z=>by rw [←z,R.new q hq] at h;cases h
 refine ⟨by rw [zac (ne _ (.inr (.inl rfl)))];exact R.obj,R.inn.keep fun q u hq e=>by rw [zac (ne q (.inl hq))];exact e,R.val,by rw [zac (ne _ (.inr (.inr rfl)))];exact R.memo,R.nd,R.small,R.npr,fun q hq=>by rw [zac (ne q hq)];exact R.new q hq,fun q u e=>?_,R.tlen⟩
 by_cases z:q=p
 ·subst z;rw [zaa] at e ⊢;exact e
 ·rw [zac z] at e ⊢;exact R.same _ _ e
theorem zpd (S:Dk)(out:Nat):valV (memoK S) (Sum.inl (out:Int))=if out∈S.ks then some (V.ref (S.g out)) else none:=by
 unfold memoK valV;induction S.ks with
 | nil=>rfl
 | cons k r ih=>
  rw [List.map_cons,List.find?_cons];by_cases e:k=out
  ·subst e;simp
  ·have h1:decide ((Sum.inl (k:Int):Key)=Sum.inl (out:Int))=false:=decide_eq_false fun z=>e (by have:=Sum.inl.inj z;omega)
   simp only [h1];rw [ih];by_cases q:out∈r
   ·rw [if_pos q,if_pos (List.mem_cons_of_mem _ q)]
   ·rw [if_neg q,if_neg fun z=>q ((List.mem_cons.mp z).resolve_left fun y=>e y.symm)]
theorem nodup_len:∀ {n:Nat} {l:List Nat},l.Nodup→(∀ x∈l,x<n)→l.length≤n:=by
 intro n;induction n with
 | zero=>
  intro l h1 h2;cases l with
  | nil=>simp
  | cons x r=>exact absurd (h2 x List.mem_cons_self) (by omega)
 | succ n ih=>
  intro l h1 h2;have h3:=ih (l:=l.erase n) (h1.erase n) fun x hx=>by
   have h4:=(h1.mem_erase_iff).mp hx;have h5:=h2 x h4.2;omega
  rw [List.length_erase] at h3;split at h3 <;> omega
end
end
section
open PySem PySem.Spec PyProof.Rows L2
open RgCase (Bytes ascii nameOk claimName cutAt Line Cond Name Case numbersIn caseText)
open Wqatcy (told)
theorem zpu (a c p:Addr):(deskF a c p).lookup ("text":Str)=some (.ref a):=by rfl
theorem zck (a c p:Addr):(deskF a c p).lookup ("case":Str)=some (.ref c):=by rfl
theorem zpt (a c p:Addr):(deskF a c p).lookup ("proofs":Str)=some (.ref p):=by rfl
def ansV (a:Wqatcy.Ans):List V:=(ansI a).map V.int
def Dk.with (S:Dk)(ks:List Nat)(g lg:Nat→Addr)(tg:Nat→List Addr):Dk:={S with ks:=ks,g:=g,lg:=lg,tg:=tg}
section
variable {P:Program}{w:World}{K:PySem.W.Frag}{mg:Str→Option Value}{base:Heap}{ad:Ads}{cd:Cds}
theorem DeskRep.add {H0 H H1:Hp}{S:Dk}{out:Nat}{p l:Addr}{ts:List Addr}(R:DeskRep cd H0 H S)(ho:out<256)(hn:out∉S.ks)(hP:ProofAt cd H1 p l ts (outs S.c out))(np:H p=none)(nl:H l=none)(nt:∀ t∈ts,H t=none)(hs:Same H H1):
  DeskRep cd H0 (upd H1 S.pr (.dK (memoK S++[((Sum.inl (out:Int):Key),V.ref p)]))) (S.with (S.ks++[out]) (fun o=>if o=out then p else S.g o) (fun o=>if o=out then l else S.lg o) (fun o=>if o=out then ts else S.tg o)):=by
 have R1:=R.sameR hs;have hpr:=R.memo;have old:∀ o∈S.ks,o≠out:=fun o h e=>hn (e▸h);have inner:∀ q,(S.with (S.ks++[out]) (fun o=>if o=out then p else S.g o) (fun o=>if o=out then l else S.lg o) (fun o=>if o=out then ts else S.tg o)).Inner cd q→S.Inner cd q∨(q=p∨q=l∨q∈ts):=by
  intro q hq;rcases hq with rfl | h | ⟨o,h1,h2⟩
  ·exact .inl (.inl rfl)
  ·exact .inl (.inr (.inl h))
  ·by_cases e:o=out
   ·subst e;have h2':q=(if o=o then p else S.g o)∨q=(if o=o then l else S.lg o)∨q∈(if o=o then ts else S.tg o):=h2
    simp only [if_true] at h2';exact .inr h2'
   ·have h2':q=(if o=out then p else S.g o)∨q=(if o=out then l else S.lg o)∨q∈(if o=out then ts else S.tg o):=h2
    simp only [if_neg e] at h2';have h1':o∈S.ks:=by
     rcases List.mem_append.mp h1 with h | h
     ·exact h
     ·exact absurd (List.mem_singleton.mp h) e
    exact .inl (.inr (.inr ⟨o,h1',h2'⟩))
 have fresh:∀ q,(q=p∨q=l∨q∈ts)→H q=none:=fun q hq=>hq.elim (fun e=>e▸np) fun hq=>hq.elim (fun e=>e▸nl) (nt q);have hdp:S.d≠S.pr:=zdd R.obj R.memo (by intro z;cases z)
 have npr':∀ q,S.Inner cd q∨(q=p∨q=l∨q∈ts)→q≠S.pr∧q≠S.d:=fun q hq=>by
  rcases hq with hq | hq
  ·exact R.npr q hq
  ·have:=fresh q hq;refine ⟨fun e=>?_,fun e=>?_⟩
   ·rw [e,hpr] at this;cases this
   ·rw [e,R.obj] at this;cases this
 have k1:∀ q o,S.Inner cd q→H1 q=some o→upd H1 S.pr (.dK (memoK S++[((Sum.inl (out:Int):Key),V.ref p)])) q=some o:=fun q o hq e=>by rw [zac (R.npr q hq).1];exact e
 have inn1:=R1.inn.keep k1;have kp:∀ q o,(q=p∨q=l∨q∈ts)→H1 q=some o→upd H1 S.pr (.dK (memoK S++[((Sum.inl (out:Int):Key),V.ref p)])) q=some o:=fun q o hq e=>by rw [zac (npr' q (.inr hq)).1];exact e
 refine ⟨?_,⟨inn1.text,inn1.cells,fun o h=>?_⟩,R.val,?_,?_,?_,fun q hq=>npr' q (inner q hq),?_,?_,R.tlen⟩
 ·show upd H1 S.pr _ S.d=_;rw [zac hdp];exact R1.obj
 ·by_cases e:o=out
  ·subst e;show ProofAt cd _ (if o=o then p else S.g o) (if o=o then l else S.lg o) (if o=o then ts else S.tg o) (outs S.c o)
   simp only [if_true];obtain ⟨⟨dx,h1⟩,h2,h3⟩:=hP;exact ⟨⟨dx,kp _ _ (.inl rfl) h1⟩,kp _ _ (.inr (.inl rfl)) h2,Paired.zfc h3 fun q hq _ e=>kp _ _ (.inr (.inr hq)) e⟩
  ·show ProofAt cd _ (if o=out then p else S.g o) (if o=out then l else S.lg o) (if o=out then ts else S.tg o) (outs S.c o)
   simp only [if_neg e];refine inn1.prf o ?_;rcases List.mem_append.mp h with h | h
   ·exact h
   ·exact absurd (List.mem_singleton.mp h) e
 ·show upd H1 S.pr _ S.pr=_;rw [zaa];unfold memoK Dk.with
  simp only;rw [List.map_append];congr 3
  ·refine List.map_congr_left fun o ho=>?_;rw [if_neg (old o ho)]
  ·simp
 ·show (S.ks++[out]).Nodup;rw [List.nodup_append];refine ⟨R.nd,by simp,fun a ha b hb e=>?_⟩
  rw [List.mem_singleton.mp hb] at e;exact hn (e▸ha)
 ·intro o h;rcases List.mem_append.mp h with h | h
  ·exact R.small o h
  ·rw [List.mem_singleton.mp h];exact ho
 ·intro q hq;rcases hq with hq | rfl | rfl
  ·rcases inner q hq with hq | hq
   ·exact R.new q (.inl hq)
   ·exact R.same.free (fresh q hq)
  ·exact R.new _ (.inr (.inl rfl))
  ·exact R.new _ (.inr (.inr rfl))
 ·intro q o e;rw [zac (fun z=>by rw [z,R.new _ (.inr (.inr rfl))] at e;cases e)]
  exact R1.same _ _ e
def zbk (cd:Cds):Sp:=fun vs H Q _=>∃ (H0:Hp) (S:Dk) (out:Nat),vs=[.ref S.d,.int out]∧DeskRep cd H0 H S∧out<256∧
 ∀ H' ks g lg tg,DeskRep cd H0 H' (S.with ks g lg tg)→ProofAt cd H' (g out) (lg out) (tg out) (outs S.c out)→Q (.ref (g out)) H'
abbrev zba:Stmt:=inClass (top 84) 3
theorem zg1:FnScope ["self","without"] ["self","without"] (defScope zba):=⟨rfl,rfl,rfl,by decide +kernel,rfl,by decide +kernel,by decide +kernel⟩
theorem zhf:BindOk "proof_without" "Desk.proof_without" zba ["self","without"]:=fun _ _ _ _ _ _=>ls2 fun _ _=>rfl
theorem zkq (D:MethAt K cd.cDesk "proof_without" "Desk.proof_without" zba)(T:TxtR mg)(CD:ClsDesk K cd.cDesk)(O_settle:Own P w K mg base "settle" 5 ["case","without"] (zlh cd)):
  OwnM P w K mg base cd.cDesk "proof_without" 6 ["self","without"] (zbk cd):=by
 refine zek D zg1 zhf (fun vs H Q E h=>?_) (fun f cdv A outer s H vs Q E hr h=>?_)
 ·obtain ⟨H0,S,out,rfl,_⟩:=h;rfl
 ·obtain ⟨H0,S,out,rfl,R,ho,k⟩:=h;have hu:=zf8 hr;refine ⟨_,(zad (zav (pt_cmp (zir hu (pv 1) (zah (pv 0) rfl)) rfl) (zae (zlo hu (zah (pv 0) rfl) (pv 1) (zar O_settle (hr.mono (by decide)) (zab (zah (pv 0) rfl) (zab (pv 1) zaf))) rfl)) zam)
   (zae (zak (zlq hu (zah (pv 0) rfl) (pv 1) (fun _ _=>rfl))))),?_⟩
  have fin:∀ H' ks g lg tg,DeskRep cd H0 H' (S.with ks g lg tg)→out∈ks→∃ x x1 x2,H' S.d=some (.ins x x1 x2)∧Cls K x∧NoAttr K x "proofs"∧∃ v,x2.lookup ("proofs":Str)=some v∧∃ a,v=V.ref a∧∃ x,DGet H' a (V.int out) (some x)∧Q x H':=by
   intro H' ks g lg tg R' hm;refine fget R'.obj CD.cl CD.n3 (zpt ..) ⟨_,rfl,V.ref (g out),?_,k H' ks g lg tg R' (R'.inn.prf out hm)⟩;have:=DGet.k (k:=Sum.inl (out:Int)) R'.memo;rw [zpd,if_pos (show out∈(S.with ks g lg tg).ks from hm)] at this
   exact this
  refine zaq (fun σ' H'=>∃ ks g lg tg,σ'=[some (.ref S.d),some (.int out)]∧DeskRep cd H0 H' (S.with ks g lg tg)∧out∈ks) ?_ ?_
  ·intro RR hRR;walk_at "rd2"
   refine fget R.obj CD.cl CD.n3 (zpt ..) ⟨_,rfl,_,DGet.k (k:=Sum.inl (out:Int)) R.memo,?_⟩;rw [zpd];by_cases hin:out∈S.ks
   ·rw [if_pos hin,if_neg (by simp)]
    exact hRR _ _ ⟨S.ks,S.g,S.lg,S.tg,rfl,R,hin⟩
   ·rw [if_neg hin,if_pos (show (none:Option V).isSome=false from rfl)]
    refine fget R.obj CD.cl CD.n2 (zck ..) ⟨S.L,S.c,out,rfl,R.inn.cells,R.val,fun H1 p l ts hP np nl nt hs=>?_⟩;have R1:=R.sameR hs;refine fget R1.obj CD.cl CD.n3 (zpt ..) ⟨_,rfl,_,DPut.k (k:=Sum.inl (out:Int)) R1.memo ?_,?_⟩
    ·unfold memoK;rw [List.length_map];have:=nodup_len R.nd R.small;exact small (by omega)
    ·rw [zil _ (by rw [zpd,if_neg hin])]
     exact hRR _ _ ⟨_,_,_,_,rfl,R.add ho hin hP np nl nt hs,by simp⟩
  ·rintro σ1 H1 ⟨ks,g,lg,tg,rfl,R1,hm⟩;walk_at "rd2"
   exact fin H1 ks g lg tg R1 hm
end
end
section
open PySem PySem.Spec PyProof.Rows L2
open RgCase (Bytes ascii nameOk claimName cutAt Line Cond Name Case numbersIn caseText)
section
variable {P:Program}{w:World}{K:PySem.W.Frag}{mg:Str→Option Value}{base:Heap}{ad:Ads}{cd:Cds}
theorem wlen (c:Case):(absOf c).weights.length=(RgCase.witnesses c).length:=List.length_map _
theorem DeskRep.zla {H0 H:Hp}{S:Dk}(R:DeskRep cd H0 H S):DeskRep cd H0 H (S.with S.ks S.g S.lg S.tg):=R
def zbv (cd:Cds):Sp:=fun vs H Q _=>∃ (H0:Hp) (S:Dk) (out:Nat),vs=[.ref S.d,.int out]∧DeskRep cd H0 H S∧Q (.bl (!Wqatcy.bitsOk S.c out)) H
abbrev zbb:Stmt:=inClass (top 84) 4
theorem zg2:FnScope ["self","without"] ["self","without"] (defScope zbb):=⟨rfl,rfl,rfl,by decide +kernel,rfl,by decide +kernel,by decide +kernel⟩
theorem zhg:BindOk "has_wrong_bit" "Desk.has_wrong_bit" zbb ["self","without"]:=fun _ _ _ _ _ _=>ls2 fun _ _=>rfl
theorem zks (D:MethAt K cd.cDesk "has_wrong_bit" "Desk.has_wrong_bit" zbb)(T:TxtR mg)(CD:ClsDesk K cd.cDesk)(CC:ClsCase K cd.cCase):OwnM P w K mg base cd.cDesk "has_wrong_bit" 1 ["self","without"] (zbv cd):=by
 refine zek D zg2 zhg (fun vs H Q E h=>?_) (fun f cdv A outer s H vs Q E hr h=>?_)
 ·obtain ⟨H0,S,out,rfl,_⟩:=h;rfl
 ·obtain ⟨H0,S,out,rfl,R,k⟩:=h;obtain ⟨vb1,vb2,vb3⟩:=zbe R.val;refine ⟨_,(zae (zak (zg7 zv8 (pv 1) (zc6 op_shl zan (zao zap (by rfl) T.b_len PySem.boot_len (zab (zah (zah (pv 0) rfl) rfl) zaf))) (nomark _)))),?_⟩
  walk_at "rd2"
  refine fget R.obj CD.cl CD.n2 (zck ..) ⟨_,rfl,fget R.inn.cells.case CC.cl CC.n4 (zez ..) ⟨_,lenL R.inn.cells.weights,?_⟩⟩;rw [List.length_map,wlen];refine ⟨⟨by omega,by omega,by decide⟩,?_⟩
  have e:decide ((1:Int)*2^(((RgCase.witnesses S.c).length:Nat):Int).toNat≤(out:Int))=!Wqatcy.bitsOk S.c out:=by
   have e1:(1:Int)*2^(((RgCase.witnesses S.c).length:Nat):Int).toNat=((2^(RgCase.witnesses S.c).length:Nat):Int):=by
    rw [Int.one_mul,show (((RgCase.witnesses S.c).length:Nat):Int).toNat=(RgCase.witnesses S.c).length by omega]
    simp
   rw [e1];unfold Wqatcy.bitsOk;by_cases q:out<2^(RgCase.witnesses S.c).length
   ·rw [decide_eq_true q,decide_eq_false (by omega)]
    rfl
   ·rw [decide_eq_false q,decide_eq_true (by omega)]
    rfl
  rw [e];exact k
def tellQ (cd:Cds)(H0:Hp)(S:Dk)(q:Wqatcy.Call)(Q:VK):Prop:=∀ H' ks g lg tg r,DeskRep cd H0 H' (S.with ks g lg tg)→H' r=some (.lst (ansV (Wqatcy.told S.c q)))→H0 r=none→Q (.ref r) H'
def zgo (cd:Cds):Sp:=fun vs H Q _=>∃ (H0:Hp) (S:Dk),vs=[.ref S.d]∧DeskRep cd H0 H S∧tellQ cd H0 S .text Q
theorem zur (b:Bytes):ansV (Wqatcy.shown b)=V.int (b.length:Nat)::bytV b:=by
 unfold ansV ansI Wqatcy.shown Wqatcy.rowAns bytV;simp only;rw [List.map_cons,List.map_map,List.map_map,List.length_map];rfl
theorem zgf (b:Bytes):(bytV b).length=b.length:=List.length_map _
abbrev zby:Stmt:=inClass (top 84) 5
theorem zjg:FnScope ["self"] ["self"] (defScope zby):=⟨rfl,rfl,rfl,by decide +kernel,rfl,by decide +kernel,by decide +kernel⟩
theorem zjw:BindOk "tell_text" "Desk.tell_text" zby ["self"]:=fun _ _ _ _ _ _=>ls1 fun _=>rfl
theorem zrh (D:MethAt K cd.cDesk "tell_text" "Desk.tell_text" zby)(T:TxtR mg)(CD:ClsDesk K cd.cDesk):OwnM P w K mg base cd.cDesk "tell_text" 1 ["self"] (zgo cd):=by
 refine zek D zjg zjw (fun vs H Q E h=>?_) (fun f cdv A outer s H vs Q E hr h=>?_)
 ·obtain ⟨H0,S,rfl,_⟩:=h;rfl
 ·obtain ⟨H0,S,rfl,R,k⟩:=h;have ht:=R.tlen;refine ⟨_,(zae (zak (zc6 zre (zbd (zab (zao zap (by rfl) T.b_len PySem.boot_len (zab (zah (pv 0) rfl) zaf)) zaf)) (zah (pv 0) rfl)))),?_⟩
  walk_at "rd2"
  refine fget R.obj CD.cl CD.n1 (zpu ..) ⟨_,lenL R.inn.text,by decide,fun l hl=>?_⟩
  have R1:=R.sameR (Same.new (o:=.lst [V.int ((bytV (caseText S.c)).length:Nat)]) hl);refine fget R1.obj CD.cl CD.n1 (zpu ..) ⟨_,rfl,_,zaa,_,R1.inn.text,?_,fun r hr=>?_⟩
  ·show 1+(bytV (caseText S.c)).length≤sizeLine;rw [zgf,sizeLine_eq];omega
  ·refine k _ _ _ _ _ r (R1.sameR (Same.new hr)).zla ?_ (R1.same.free hr);rw [zaa];show _=some (HO.lst (ansV (Wqatcy.shown (caseText S.c))));rw [zur,zgf];rfl
def zfo (cd:Cds):Sp:=fun vs H Q _=>∃ (H0:Hp) (S:Dk),vs=[.ref S.d]∧DeskRep cd H0 H S∧tellQ cd H0 S .sizes Q
abbrev zbo:Stmt:=inClass (top 84) 6
theorem zii:FnScope ["self"] ["self"] (defScope zbo):=⟨rfl,rfl,rfl,by decide +kernel,rfl,by decide +kernel,by decide +kernel⟩
theorem zi7:BindOk "tell_sizes" "Desk.tell_sizes" zbo ["self"]:=fun _ _ _ _ _ _=>ls1 fun _=>rfl
theorem zo0 (D:MethAt K cd.cDesk "tell_sizes" "Desk.tell_sizes" zbo)(T:TxtR mg)(CD:ClsDesk K cd.cDesk)(CC:ClsCase K cd.cCase):OwnM P w K mg base cd.cDesk "tell_sizes" 1 ["self"] (zfo cd):=by
 refine zek D zii zi7 (fun vs H Q E h=>?_) (fun f cdv A outer s H vs Q E hr h=>?_)
 ·obtain ⟨H0,S,rfl,_⟩:=h;rfl
 ·obtain ⟨H0,S,rfl,R,k⟩:=h;have hc:=R.inn.cells;refine ⟨_,(zae (zak (zbd (zab (zal T.g_DONE) (zab (zao zap (by rfl) T.b_len PySem.boot_len (zab (zah (zah (pv 0) rfl) rfl) zaf)) (zab (zao zap (by rfl) T.b_len PySem.boot_len (zab (zah (zah (pv 0) rfl) rfl) zaf)) (zab (zah (zah (pv 0) rfl) rfl) zaf))))))),?_⟩
  walk_at "rd2"
  refine fget R.obj CD.cl CD.n2 (zck ..) ⟨_,rfl,fget hc.case CC.cl CC.n2 (zdn ..) ⟨_,lenL hc.claims,fget R.obj CD.cl CD.n2 (zck ..) ⟨_,rfl,fget hc.case CC.cl CC.n4 (zez ..) ⟨_,lenL hc.weights,fget R.obj CD.cl CD.n2 (zck ..) ⟨_,rfl,fget hc.case CC.cl CC.n1 (zge ..) ⟨by decide,fun r hr=>?_⟩⟩⟩⟩⟩⟩
  refine k _ _ _ _ _ r (R.sameR (Same.new hr)).zla ?_ (R.same.free hr);rw [zaa,zci,za9,List.length_map,wlen];rfl
def zfq (cd:Cds):Sp:=fun vs H Q _=>∃ (H0:Hp) (S:Dk) (i out:Nat),vs=[.ref S.d,.int i,.int out]∧DeskRep cd H0 H S∧tellQ cd H0 S (.claim i out) Q
theorem zp0 {c:Case}(v:Valid c){out:Nat}(h:Wqatcy.bitsOk c out=true):out<256:=by
 obtain ⟨_,_,vb3⟩:=zbe v;have h1:=of_decide_eq_true h;have h2:(2:Nat)^(RgCase.witnesses c).length≤2^8:=Nat.pow_le_pow_right (by omega) vb3
 omega
theorem zkg {c:Case}{i out:Nat}(h:Wqatcy.bitsOk c out=false):Wqatcy.told c (.claim i out)=Wqatcy.WRONG:=by
 show (if Wqatcy.bitsOk c out=false then Wqatcy.WRONG else _)=_
 rw [if_pos h]
theorem zod {c:Case}{i out:Nat}(h:Wqatcy.bitsOk c out=true)(hi:¬ i<(RgCase.claims c).length):Wqatcy.told c (.claim i out)=Wqatcy.NO:=by
 show (if Wqatcy.bitsOk c out=false then Wqatcy.WRONG else match (RgCase.claims c)[i]? with | some _=>_ | none=>Wqatcy.NO)=_
 rw [if_neg (by rw [h];simp),List.getElem?_eq_none (by omega)]
theorem zmj {c:Case}{i out:Nat}{o:Nat×Nat}(h:Wqatcy.bitsOk c out=true)(ho:(outs c out)[i]? = some o):Wqatcy.told c (.claim i out)=Wqatcy.tells [o.1,o.2]:=by
 have hi:i<(RgCase.claims c).length:=by
  have:=(List.getElem?_eq_some_iff.mp ho).1;rwa [zhl] at this
 obtain ⟨y,e1,e2,e3⟩:=zjz (RgCase.knownOf c) out i (by rw [zhp,List.length_map];exact hi)
 have e4:(outs c out)[i]? = some y:=e1;rw [ho] at e4;cases e4;show (if Wqatcy.bitsOk c out=false then Wqatcy.WRONG else match (RgCase.claims c)[i]? with | some _=>Wqatcy.tells [(RgCase.settledOf (RgCase.knownOf c) out).1.getD i 3,(RgCase.settledOf (RgCase.knownOf c) out).2.getD i 3] | none=>Wqatcy.NO)=_
 rw [if_neg (by rw [h];simp),List.getElem?_eq_getElem hi,e2,e3]
abbrev zbp:Stmt:=inClass (top 84) 7
theorem zeu:FnScope ["self","number","without","outcome"] ["self","number","without"] (defScope zbp):=⟨rfl,rfl,rfl,by decide +kernel,rfl,by decide +kernel,by decide +kernel⟩
theorem zi9:BindOk "tell_claim" "Desk.tell_claim" zbp ["self","number","without"]:=fun _ _ _ _ _ _=>ls3 fun _ _ _=>rfl
theorem zo2 (D:MethAt K cd.cDesk "tell_claim" "Desk.tell_claim" zbp)(T:TxtR mg)(CD:ClsDesk K cd.cDesk)(CC:ClsCase K cd.cCase)(CP:ClsProof K cd.cProof)(c_Desk:Cls K cd.cDesk)(O_Desk_has_wrong_bit:OwnM P w K mg base cd.cDesk "has_wrong_bit" 1 ["self","without"] (zbv cd))(O_Desk_proof_without:OwnM P w K mg base cd.cDesk "proof_without" 6 ["self","without"] (zbk cd)):
  OwnM P w K mg base cd.cDesk "tell_claim" 7 ["self","number","without"] (zfq cd):=by
 refine zek D zeu zi9 (fun vs H Q E h=>?_) (fun f cdv A outer s H vs Q E hr h=>?_)
 ·obtain ⟨H0,S,i,out,rfl,_⟩:=h;rfl
 ·obtain ⟨H0,S,i,out,rfl,R,k⟩:=h;have hc:=R.inn.cells;unfold tellQ at k;refine ⟨_,(zad (zav (zev (zcl O_Desk_has_wrong_bit c_Desk (hr.mono (by decide)) (pv 0) (zab (pv 2) zaf))) (zae (zak (zbd (zab (zal T.g_WRONG_BITS_OR_NAME) zaf)))) zam)
   (zad (zav (zai zv8 (pv 1) (zao zap (by rfl) T.b_len PySem.boot_len (zab (zah (zah (pv 0) rfl) rfl) zaf)) (nomark _)) (zae (zak (zbd (zab (zal T.g_NO_SUCH) zaf)))) zam)
   (zad (zat (i:=3) zeu.nd rfl (Or.inl rfl) (zbt zax (zah (zcl O_Desk_proof_without c_Desk (hr.mono (by decide)) (pv 0) (zab (pv 2) zaf)) rfl) (pv 1) (fun _ _=>rfl)))
   (zae (zak (zbd (zab (zal T.g_DONE) (zab (zbt zl4 (pv 3) zan (fun _ _=>rfl)) (zab (zbt zl4 (pv 3) zan (fun _ _=>rfl)) zaf))))))))),?_⟩
  walk_at "rd2"
  refine ⟨_,_,R.obj,by rfl,H0,S,out,rfl,R,_,rfl,?_⟩
  by_cases hb:Wqatcy.bitsOk S.c out=false
  ·rw [if_pos (by rw [hb];rfl)]
   rw [zkg hb] at k;exact ⟨by decide,fun r hr=>k _ _ _ _ _ r (R.sameR (Same.new hr)).zla zaa (R.same.free hr)⟩
  have hb':Wqatcy.bitsOk S.c out=true:=by simpa using hb
  rw [if_neg (by rw [hb'];exact Bool.false_ne_true)]
  refine fget R.obj CD.cl CD.n2 (zck ..) ⟨_,rfl,fget hc.case CC.cl CC.n2 (zdn ..) ⟨_,lenL hc.claims,?_⟩⟩;rw [zci,za9];by_cases hi:i<(RgCase.claims S.c).length
  ·rw [if_neg (by omega)]
   refine ⟨_,_,R.obj,by rfl,H0,S,out,rfl,R,zp0 R.val hb',fun H1 ks g lg tg R1 hP=>?_⟩
   obtain ⟨o,ho⟩:=zls (c:=S.c) out hi;rw [zmj hb' ho] at k;obtain ⟨dx,hobj⟩:=hP.obj;obtain ⟨t,ht1,ht2⟩:∃ t,(tg out)[i]? = some t∧H1 t=some (.tup (outV o)):=by
    have hl:(tg out).length=(outs S.c out).length:=Paired.length hP.tup;have hi2:i<(tg out).length:=by rw [hl,zhl];exact hi
    obtain ⟨b,hb1,hb2⟩:=zcu hP.tup (List.getElem?_eq_getElem hi2);rw [ho] at hb1;cases hb1;exact ⟨_,List.getElem?_eq_getElem hi2,hb2⟩
   refine ⟨_,rfl,fget hobj CP.cl CP.n1 (zio ..) ⟨_,rfl,_,SqL.of hP.lst,_,zaj (by rw [List.getElem?_map,ht1];rfl),_,rfl,outV o,SqT.of ht2,_,zaj (j:=0) rfl,_,rfl,outV o,SqT.of ht2,_,zaj (j:=1) rfl,by decide,fun r hr=>?_⟩⟩
   exact k _ _ _ _ _ r (R1.sameR (Same.new hr)) zaa (R1.same.free hr)
  ·rw [if_pos (by omega)]
   rw [zod hb' hi] at k;exact ⟨by decide,fun r hr=>k _ _ _ _ _ r (R.sameR (Same.new hr)).zla zaa (R.same.free hr)⟩
end
end
section
open PySem PySem.Spec PyProof.Rows L2
open RgCase (Bytes ascii nameOk claimName cutAt Line Cond Name Case numbersIn caseText)
section
variable {P:Program}{w:World}{K:PySem.W.Frag}{mg:Str→Option Value}{base:Heap}{ad:Ads}{cd:Cds}
def zfp (cd:Cds):Sp:=fun vs H Q _=>∃ (H0:Hp) (S:Dk) (i out:Nat),vs=[.ref S.d,.int i,.int out]∧DeskRep cd H0 H S∧tellQ cd H0 S (.rules i out) Q
theorem zkf {c:Case}{i out:Nat}(h:Wqatcy.bitsOk c out=false):Wqatcy.told c (.rules i out)=Wqatcy.WRONG:=by
 show (if Wqatcy.bitsOk c out=false then Wqatcy.WRONG else _)=_
 rw [if_pos h]
theorem zoc {c:Case}{i out:Nat}(h:Wqatcy.bitsOk c out=true)(hi:¬ i<(RgCase.claims c).length):Wqatcy.told c (.rules i out)=Wqatcy.NO:=by
 show (if Wqatcy.bitsOk c out=false then Wqatcy.WRONG else match (RgCase.claims c)[i]? with | some _=>_ | none=>Wqatcy.NO)=_
 rw [if_neg (by rw [h];simp),List.getElem?_eq_none (by omega)]
theorem zmi {c:Case}(v:Valid c){i out:Nat}{n:Name}(h:Wqatcy.bitsOk c out=true)(hn:(RgCase.claims c)[i]? = some n):Wqatcy.told c (.rules i out)=Wqatcy.rowAns ((goingA (factsL (outs c out)) (claimA c n)).map (·.line)):=by
 show (if Wqatcy.bitsOk c out=false then Wqatcy.WRONG else match (RgCase.claims c)[i]? with | some n=>Wqatcy.rowAns (RgCase.goingBy c (RgCase.settledOf (RgCase.knownOf c) out).1 n) | none=>Wqatcy.NO)=_
 rw [if_neg (by rw [h];simp),hn]
 show Wqatcy.rowAns (RgCase.goingBy c (RgCase.settledOf (RgCase.knownOf c) out).1 n)=_;rw [going_eq v]
theorem row_eq (l:List Nat):ansV (Wqatcy.rowAns l)=V.int (l.length:Nat)::natV l:=by
 unfold ansV ansI Wqatcy.rowAns natV;simp only;rw [List.map_cons,List.map_map];rfl
abbrev zbg:Stmt:=inClass (top 84) 8
theorem zb3:FnScope ["self","number","without","rules","rule"] ["self","number","without"] (defScope zbg):=⟨rfl,rfl,rfl,by decide +kernel,rfl,by decide +kernel,by decide +kernel⟩
theorem zi8:BindOk "tell_rules" "Desk.tell_rules" zbg ["self","number","without"]:=fun _ _ _ _ _ _=>ls3 fun _ _ _=>rfl
theorem zo1 (D:MethAt K cd.cDesk "tell_rules" "Desk.tell_rules" zbg)(T:TxtR mg)(CD:ClsDesk K cd.cDesk)(CC:ClsCase K cd.cCase)(CP:ClsProof K cd.cProof)(CR:ClsRule K cd.cRule)(c_Desk:Cls K cd.cDesk)(O_Desk_has_wrong_bit:OwnM P w K mg base cd.cDesk "has_wrong_bit" 1 ["self","without"] (zbv cd))(O_Desk_proof_without:OwnM P w K mg base cd.cDesk "proof_without" 6 ["self","without"] (zbk cd))(O_going_rules:Own P w K mg base "going_rules" 2 ["claim","facts"] (zdj cd)):
  OwnM P w K mg base cd.cDesk "tell_rules" 7 ["self","number","without"] (zfp cd):=by
 refine zek D zb3 zi8 (fun vs H Q E h=>?_) (fun f cdv A outer s H vs Q E hr h=>?_)
 ·obtain ⟨H0,S,i,out,rfl,_⟩:=h;rfl
 ·obtain ⟨H0,S,i,out,rfl,R,k⟩:=h;have hc:=R.inn.cells;obtain ⟨vb1,vb2,vb3⟩:=zbe R.val;unfold tellQ at k;refine ⟨_,(zad (zav (zev (zcl O_Desk_has_wrong_bit c_Desk (hr.mono (by decide)) (pv 0) (zab (pv 2) zaf))) (zae (zak (zbd (zab (zal T.g_WRONG_BITS_OR_NAME) zaf)))) zam)
   (zad (zav (zai zv8 (pv 1) (zao zap (by rfl) T.b_len PySem.boot_len (zab (zah (zah (pv 0) rfl) rfl) zaf)) (nomark _)) (zae (zak (zbd (zab (zal T.g_NO_SUCH) zaf)))) zam)
   (zad (zat (i:=3) zb3.nd rfl (Or.inl rfl) (zar O_going_rules (hr.mono (by decide)) (zab (zbt zax (zah (zah (pv 0) rfl) rfl) (pv 1) (fun _ _=>rfl)) (zab (zah (zcl O_Desk_proof_without c_Desk (hr.mono (by decide)) (pv 0) (zab (pv 2) zaf)) rfl) zaf))))
   (zae (zak (zc6 zre (zbd (zab (zao zap (by rfl) T.b_len PySem.boot_len (zab (pv 3) zaf)) zaf)) (ztk (own:=[("rule",4)]) (te:=tFld K (tVar 4) "line_number") rfl zb3.nd (zfb (pv 3)) (ze0 (N:=["self","number","without","rules","rule"]) (sc:=defScope zbg) (by decide +kernel)) (fun _ _ _ _ _=>(zbj (i:=4) zb3.nd rfl (Or.inl rfl))) (fun _ _ _ _ _=>zln) (fun _ _ _ _ _=>by exact (zah (pv 4) (by rfl)))))))))),?_⟩
  refine zaq (fun σ' H'=>σ'=[some (.ref S.d),some (.int i),some (.int out),none,none]∧H'=H∧Wqatcy.bitsOk S.c out=true) ?_ ?_
  ·intro RR hRR;walk_at "rd2"
   refine ⟨_,_,R.obj,by rfl,H0,S,out,rfl,R,_,rfl,?_⟩
   by_cases hb:Wqatcy.bitsOk S.c out=false
   ·rw [if_pos (by rw [hb];rfl)]
    rw [zkf hb] at k;exact ⟨by decide,fun r hr=>k _ _ _ _ _ r (R.sameR (Same.new hr)).zla zaa (R.same.free hr)⟩
   ·have hb':Wqatcy.bitsOk S.c out=true:=by simpa using hb
    rw [if_neg (by rw [hb'];exact Bool.false_ne_true)]
    exact hRR _ _ ⟨rfl,rfl,hb'⟩
  rintro σ1 H1 ⟨rfl,rfl,hb⟩;refine zaq (fun σ' H'=>σ'=[some (.ref S.d),some (.int i),some (.int out),none,none]∧H'=H1∧i<(RgCase.claims S.c).length) ?_ ?_
  ·intro RR hRR;walk_at "rd2"
   refine fget R.obj CD.cl CD.n2 (zck ..) ⟨_,rfl,fget hc.case CC.cl CC.n2 (zdn ..) ⟨_,lenL hc.claims,?_⟩⟩;rw [zci,za9];by_cases hi:i<(RgCase.claims S.c).length
   ·rw [if_neg (by omega)]
    exact hRR _ _ ⟨rfl,rfl,hi⟩
   ·rw [if_pos (by omega)]
    rw [zoc hb hi] at k;exact ⟨by decide,fun r hr=>k _ _ _ _ _ r (R.sameR (Same.new hr)).zla zaa (R.same.free hr)⟩
  rintro σ2 H2 ⟨rfl,rfl,hi⟩;obtain ⟨n,hn⟩:∃ n,(RgCase.claims S.c)[i]? = some n:=⟨_,List.getElem?_eq_getElem hi⟩;have hq:(absOf S.c).claims[i]? = some (claimA S.c n):=by
   show ((RgCase.claims S.c).map (claimA S.c))[i]? = _;rw [List.getElem?_map,hn];rfl
  rw [zmi R.val hb hn] at k;have hrl:=zlj (c:=S.c) n;obtain ⟨fs,hfs⟩:∃ fs,fs=factsL (outs S.c out):=⟨_,rfl⟩;obtain ⟨q,hqd⟩:∃ q,q=claimA S.c n:=⟨_,rfl⟩;rw [←hqd] at hq hrl;rw [←hfs,←hqd] at k;refine zaq (fun σ' H'=>∃ r0 ks g lg tg,σ'=[some (.ref S.d),some (.int i),some (.int out),some (.ref r0),none]∧DeskRep cd H0 H' (S.with ks g lg tg)∧H' r0=some (.lst (goRefs S.L i fs q))) ?_ ?_
  ·intro RR hRR;walk_at "rd2"
   refine fget R.obj CD.cl CD.n2 (zck ..) ⟨_,rfl,fget hc.case CC.cl CC.n2 (zdn ..) ⟨_,rfl,_,SqL.of hc.claims,_,zaj (zk4 (by rw [za9];exact hi)),?_⟩⟩
   refine ⟨_,_,R.obj,by rfl,H0,S,out,rfl,R,zp0 R.val hb,fun H3 ks g lg tg R3 hP=>?_⟩
   obtain ⟨dx,hobj⟩:=hP.obj;refine ⟨_,rfl,fget hobj CP.cl CP.n2 (zin ..) ⟨S.L,absOf S.c,i,fs,q,by rw [hfs],R3.inn.cells,hq,by omega,fun H4 r0 h4 n4 S4=>?_⟩⟩
   exact hRR _ _ ⟨r0,ks,g,lg,tg,rfl,R3.sameR S4,h4⟩
  rintro σ3 H3 ⟨r0,ks,g,lg,tg,rfl,R3,h3⟩;have hgl:(goRefs S.L i fs q).length=(goZ fs q.rules.zipIdx).length:=List.length_map _;have hgz:(goZ fs q.rules.zipIdx).length≤1000:=by
   unfold goZ;refine Nat.le_trans (List.length_filter_le _ _) ?_;rw [List.length_zipIdx];omega
  walk_at "rd2"
  refine ⟨_,lenL h3,by decide,fun l hl=>?_⟩
  have Sl:Same H3 (upd H3 l (.lst [V.int ((goRefs S.L i fs q).length:Nat)])):=Same.new hl;have R4:=R3.sameR Sl;refine ⟨_,rfl,_,rfl,⟨_,SqL.of (Sl _ _ h3)⟩,fun m hm=>?_⟩;refine zjo (K:=K) (a:=r0) (xs:=goRefs S.L i fs q) (fun j H5=>Same (upd H3 l (.lst [V.int ((goRefs S.L i fs q).length:Nat)])) H5∧H5 m=some (.lst (((goZ fs q.rules.zipIdx).take j).map fun x=>V.int (x.1.line:Nat)))) ⟨Same.new hm,zaa⟩ (fun j H5 _ ⟨S5,_⟩=>SqL.of (S5 _ _ (Sl _ _ h3))) ?_ ?_
  ·rintro j y H5 hy ⟨S5,h5⟩;obtain ⟨x,hx,rfl⟩:∃ x,(goZ fs q.rules.zipIdx)[j]? = some x∧y=V.ref (S.L.pl (.rule i x.2)):=by
    unfold goRefs at hy;rw [List.getElem?_map] at hy;cases e:(goZ fs q.rules.zipIdx)[j]? with
    | none=>rw [e] at hy;cases hy
    | some x=>
     rw [e] at hy;exact ⟨x,rfl,(Option.some.inj hy).symm⟩
   have hxr:q.rules[x.2]? = some x.1:=by
    have hm2:x∈q.rules.zipIdx:=(List.mem_filter.mp (List.mem_of_getElem? hx)).1;exact List.mem_zipIdx_iff_getElem?.mp hm2
   have hC5:=R4.inn.cells.same S5;refine ⟨rfl,?_⟩;simp only [tYes,if_true];refine ⟨_,rfl,_,_,_,_,_,rfl,Cells.rule (L:=S.L) (A:=absOf S.c) hC5 hq hxr,CR.cl,CR.n1,ruleF_g1 ..,_,h5,?_,HC.Same.upd S5 hm,?_⟩
   ·rw [List.length_map,List.length_take];exact small (by omega)
   ·rw [zaa,List.take_add_one,hx];simp
  ·rintro H5 ⟨S5,h5⟩;rw [hgl,List.take_length] at h5;refine ⟨_,rfl,_,S5 _ _ zaa,_,h5,?_,fun r hr=>?_⟩
   ·rw [List.length_map,sizeLine_eq];show 1+_≤_;omega
   ·have R5:=R4.sameR S5;refine k _ ks g lg tg r (R5.sameR (Same.new hr)) ?_ (R5.same.free hr);rw [zaa,row_eq,List.length_map,←zt6,List.length_map,hgl];unfold natV;rw [List.map_map,List.map_map];rfl
theorem lc_str {x:Str}{g:TG}{tt:TT}{te:TE}{vs:List Nat}{σ:L2.St}{H1:Hp}{D:Addr}{Qd:Hp→Prop}(Pv:Nat→Hp→Prop)(h0:Pv 0 (upd H1 D (.lst [])))(hs:∀ i c H,x.cps[i]? = some c→Pv i H→g (.str ⟨#[c]⟩) (wipe σ vs) H fun σ2 H2=>wipe σ2 vs=wipe σ vs∧tt σ2 H2 fun b H3=>if b=true then te σ2 H3 fun y H4=>∃ acc,H4 D=some (.lst acc)∧acc.length<sizeLine∧Pv (i+1) (upd H4 D (.lst (acc++[y]))) else Pv (i+1) H3)(hd:∀ H,Pv x.cps.size H→Qd H):
  ∃ W:Nat→Nat→Hp→Prop,(∃ m,W 0 m (upd H1 D (.lst [])))∧∀ i m H,W i m H→
   ((Its x).stop i H∧Qd H)∨((Its x).go i H∧∃ Nx:Hp→Prop,(∀ H',Nx H'→∃ m',m'<m∧W (i+1) m' H')∧∀ y H',(Its x).yld i H y H'→g y (wipe σ vs) H' fun σ2 H2=>wipe σ2 vs=wipe σ vs∧tt σ2 H2 fun b H3=>
    if b=true then te σ2 H3 fun y H4=>∃ acc,H4 D=some (.lst acc)∧acc.length<sizeLine∧Nx (upd H4 D (.lst (acc++[y]))) else Nx H3):=by
 refine ⟨fun i m H=>m=x.cps.size - i∧i≤x.cps.size∧Pv i H,⟨x.cps.size,by simp,Nat.zero_le _,h0⟩,?_⟩
 rintro i m H ⟨rfl,hi,p⟩;by_cases hlt:i<x.cps.size
 ·refine .inr ⟨hlt,Pv (i+1),fun H' p'=>⟨x.cps.size - (i+1),by omega,rfl,hlt,p'⟩,fun y H' q=>?_⟩
  obtain ⟨e,c,hc,rfl⟩:=q;subst e;exact hs i c _ hc p
 ·have e:i=x.cps.size:=by omega
  subst e;exact .inl ⟨Nat.le_refl _,hd H p⟩
def zd7 (cd:Cds):Sp:=fun vs H Q _=>∃ (H0:Hp) (S:Dk) (i:Nat),vs=[.ref S.d,.int i]∧DeskRep cd H0 H S∧tellQ cd H0 S (.witness i) Q
theorem zs2 {c:Case}{i:Nat}(hi:¬ i<(RgCase.witnesses c).length):Wqatcy.told c (.witness i)=Wqatcy.NO:=by
 show (match (RgCase.witnesses c)[i]? with | some n=>Wqatcy.shown n | none=>Wqatcy.NO)=_
 rw [List.getElem?_eq_none (by omega)]
theorem zqk {c:Case}{i:Nat}{n:Name}(hn:(RgCase.witnesses c)[i]? = some n):Wqatcy.told c (.witness i)=Wqatcy.shown n:=by
 show (match (RgCase.witnesses c)[i]? with | some n=>Wqatcy.shown n | none=>Wqatcy.NO)=_
 rw [hn]
theorem keys_dict (f:Nat→V)(ns:List Name):(dictOf f ns).map (fun kv=>kV kv.1)=ns.map fun n=>V.str (toS n):=by
 unfold dictOf;rw [List.map_map];have:∀ (l:List Name) (k:Nat),(l.zipIdx k).map ((fun kv:Key×V=>kV kv.1) ∘ fun x=>(Sum.inr (toS x.1),f x.2))=l.map fun n=>V.str (toS n):=by
  intro l;induction l with
  | nil=>intro k;rfl
  | cons n r ih=>
   intro k;rw [List.zipIdx_cons,List.map_cons,List.map_cons,ih];rfl
 exact this ns 0
theorem name_len {c:Case}(v:Valid c):∀ n∈RgCase.witnesses c,n.length≤12:=by
 intro n hn;have h1:=za4.mp hn;unfold RgCase.named at h1;obtain ⟨l,hl,e⟩:=List.mem_filterMap.mp h1;have hok:=zn6 v l hl;have key:∀ b:Name,nameOk b=true→b.length≤12:=fun b h=>by
  unfold nameOk at h;rw [Bool.and_eq_true,Bool.and_eq_true] at h;exact of_decide_eq_true h.2.1
 cases l with
 | weight a k=>
  have:a=n:=by simpa using e
  subst this;simp only [Line.ok,Bool.and_eq_true] at hok;exact key _ hok.1
 | word s a m=>
  have:a=n:=by simpa using e
  subst this;simp only [Line.ok,Bool.and_eq_true] at hok;exact key _ hok.1
 | _=>simp at e
abbrev za1:Stmt:=inClass (top 84) 10
theorem zbm:FnScope ["self","number","name","sign"] ["self","number"] (defScope za1):=⟨rfl,rfl,rfl,by decide +kernel,rfl,by decide +kernel,by decide +kernel⟩
theorem zhv:BindOk "tell_witness" "Desk.tell_witness" za1 ["self","number"]:=fun _ _ _ _ _ _=>ls2 fun _ _=>rfl
theorem zlt (D:MethAt K cd.cDesk "tell_witness" "Desk.tell_witness" za1)(T:TxtR mg)(CD:ClsDesk K cd.cDesk)(CC:ClsCase K cd.cCase):OwnM P w K mg base cd.cDesk "tell_witness" 1 ["self","number"] (zd7 cd):=by
 refine zek D zbm zhv (fun vs H Q E h=>?_) (fun f cdv A outer s H vs Q E hr h=>?_)
 ·obtain ⟨H0,S,i,rfl,_⟩:=h;rfl
 ·obtain ⟨H0,S,i,rfl,R,k⟩:=h;have hc:=R.inn.cells;unfold tellQ at k;refine ⟨_,(zad (zav (zai zv8 (pv 1) (zao zap (by rfl) T.b_len PySem.boot_len (zab (zah (zah (pv 0) rfl) rfl) zaf)) (nomark _)) (zae (zak (zbd (zab (zal T.g_NO_SUCH) zaf)))) zam)
   (zad (zat (i:=2) zbm.nd rfl (Or.inl rfl) (zbt zax (zlr (zm4 rfl) (by rfl) T.b_list PyProof.Rows.boot_list (zab (zah (zah (pv 0) rfl) rfl) zaf)) (pv 1) (fun _ _=>rfl)))
   (zae (zak (zc6 zre (zbd (zab (zao zap (by rfl) T.b_len PySem.boot_len (zab (pv 2) zaf)) zaf)) (ztk (own:=[("sign",3)]) rfl zbm.nd (pi_str (pv 2)) (ze0 (N:=["self","number","name","sign"]) (sc:=defScope za1) (by decide +kernel)) (fun _ _ _ _ _=>(zbj (i:=3) zbm.nd rfl (Or.inl rfl))) (fun _ _ _ _ _=>zln) (fun _ _ _ _ _=>(zao zvl (by rfl) T.b_ord boot_ord (zab (pv 3) zaf))))))))),?_⟩
  walk_at "rd2"
  refine fget R.obj CD.cl CD.n2 (zck ..) ⟨_,rfl,fget hc.case CC.cl CC.n4 (zez ..) ⟨_,lenL hc.weights,?_⟩⟩;rw [List.length_map,wlen];by_cases hi:i<(RgCase.witnesses S.c).length
  ·rw [if_neg (by omega)]
   obtain ⟨n,hn⟩:∃ n,(RgCase.witnesses S.c)[i]? = some n:=⟨_,List.getElem?_eq_getElem hi⟩;have hnl:=name_len R.val n (List.mem_of_getElem? hn);rw [zqk hn] at k;refine fget R.obj CD.cl CD.n2 (zck ..) ⟨_,rfl,fget hc.case CC.cl CC.n5 (zgd ..) ⟨_,rfl,_,hc.wits,fun l hl=>?_⟩⟩;rw [keys_dict];have R1:=R.sameR (Same.new (o:=.lst ((absOf S.c).wits.map fun n=>V.str (toS n))) hl);refine ⟨_,SqL.of zaa,V.str (toS n),zaj (by rw [List.getElem?_map];show (RgCase.witnesses S.c)[i]?.map _=_;rw [hn];rfl),?_⟩
   generalize upd H l (.lst ((absOf S.c).wits.map fun n=>V.str (toS n)))=H1 at R1
   refine ⟨_,⟨by rw [ze1,sizeLine_eq];omega,rfl⟩,by decide,fun l1 hl1=>?_⟩
   have Sl:Same H1 (upd H1 l1 (.lst [V.int ((toS n).length:Nat)])):=Same.new hl1;have R2:=R1.sameR Sl;refine ⟨_,rfl,_,rfl,fun m hm=>?_⟩;refine lc_str (x:=toS n) (fun j H5=>Same (upd H1 l1 (.lst [V.int ((toS n).length:Nat)])) H5∧H5 m=some (.lst (bytV (n.take j)))) ⟨Same.new hm,zaa⟩ ?_ ?_
   ·rintro j cc H5 hcc ⟨S5,h5⟩;obtain ⟨u,hu,rfl⟩:∃ u,n[j]? = some u∧cc=u.toNat:=by
     have e:(toS n).cps[j]? = (n[j]?).map UInt8.toNat:=by
      unfold toS;simp
     rw [e] at hcc;cases e2:n[j]? with
     | none=>rw [e2] at hcc;cases hcc
     | some u=>
      rw [e2] at hcc;exact ⟨u,rfl,(Option.some.inj hcc).symm⟩
    refine ⟨rfl,?_⟩;simp only [tYes,if_true];refine ⟨_,rfl,_,rfl,rfl,_,h5,?_,HC.Same.upd S5 hm,?_⟩
    ·rw [zgf,List.length_take];exact small (by omega)
    ·rw [zaa];unfold bytV;rw [List.take_add_one,hu,List.map_append];rfl
   ·rintro H5 ⟨S5,h5⟩;have hsz:(toS n).cps.size=n.length:=ze1 n;rw [hsz,List.take_length] at h5;refine ⟨_,rfl,_,S5 _ _ zaa,_,h5,?_,fun r hr=>?_⟩
    ·rw [zgf,sizeLine_eq];show 1+_≤_;omega
    ·have R5:=R2.sameR S5;refine k _ _ _ _ _ r (R5.sameR (Same.new hr)).zla ?_ (R5.same.free hr);rw [zaa,zur,ze1];rfl
  ·rw [if_pos (by omega)]
   rw [zs2 hi] at k;exact ⟨by decide,fun r hr=>k _ _ _ _ _ r (R.sameR (Same.new hr)).zla zaa (R.same.free hr)⟩
end
end
section
open PySem PySem.Spec PyProof.Rows L2
open RgCase (Bytes ascii nameOk claimName cutAt Line Cond Name Case numbersIn caseText)
section
variable {P:Program}{w:World}{K:PySem.W.Frag}{mg:Str→Option Value}{base:Heap}{ad:Ads}{cd:Cds}
theorem zj4 {b:Name}:nameOk b=true→∀ c∈b,nameSign c=true:=fun h=>by
 unfold nameOk at h;rw [Bool.and_eq_true,Bool.and_eq_true] at h;exact List.all_eq_true.mp h.2.2
theorem zrq (b:Bytes):nameOk (b.map canon)=nameOk b∧(nameOk b=true→b.map canon=b):=by
 have h1:nameOk (b.map canon)=true→b.map canon=b:=fun h=>zg9 (zj4 h);have h2:nameOk b=true→b.map canon=b:=fun h=>zn0 (zj4 h);refine ⟨?_,h2⟩;cases e:nameOk b with
 | true=>rw [h2 e,e]
 | false=>
  cases e2:nameOk (b.map canon) with
  | false=>rfl
  | true=>rw [h1 e2,e] at e2;cases e2
def zgp (cd:Cds):Sp:=fun vs H Q _=>∃ (H0:Hp) (S:Dk) (out:Nat) (x:Addr) (b:Bytes),vs=[.ref S.d,.int out,.ref x]∧DeskRep cd H0 H S∧H x=some (.lst (bytV b))∧b.length≤2000000∧tellQ cd H0 S (.boat out b) Q
theorem zgj {c:Case}{out:Nat}{b:Bytes}(h:Wqatcy.bitsOk c out=false∨nameOk b=false):Wqatcy.told c (.boat out b)=Wqatcy.WRONG:=by
 show (if Wqatcy.bitsOk c out=false∨nameOk b=false then Wqatcy.WRONG else _)=_
 rw [if_pos h]
theorem zoe {c:Case}(v:Valid c){out:Nat}{b:Bytes}(h1:Wqatcy.bitsOk c out=true)(h2:nameOk b=true):Wqatcy.told c (.boat out b)=Wqatcy.tells [penMax (factsL (outs c out)) (boatA c b),if (penMax (factsL (outs c out)) (boatA c b)==0&&redA (factsL (outs c out)) (boatA c b))=true then 1 else 0]:=by
 show (if Wqatcy.bitsOk c out=false∨nameOk b=false then Wqatcy.WRONG else Wqatcy.tells [RgCase.penaltyBy c (RgCase.settledOf (RgCase.knownOf c) out).1 b,if RgCase.redressBy c (RgCase.settledOf (RgCase.knownOf c) out).1 b=true then 1 else 0])=_
 rw [if_neg (by rw [h1,h2];simp),zv3 v,znn v]
abbrev zbz:Stmt:=inClass (top 84) 9
theorem zcf:FnScope ["self","without","name","signs","boat","facts"] ["self","without","name"] (defScope zbz):=⟨rfl,rfl,rfl,by decide +kernel,rfl,by decide +kernel,by decide +kernel⟩
theorem zjx:BindOk "tell_boat" "Desk.tell_boat" zbz ["self","without","name"]:=fun _ _ _ _ _ _=>ls3 fun _ _ _=>rfl
theorem zri (D:MethAt K cd.cDesk "tell_boat" "Desk.tell_boat" zbz)(T:TxtR mg)(CD:ClsDesk K cd.cDesk)(CC:ClsCase K cd.cCase)(CP:ClsProof K cd.cProof)(c_Desk:Cls K cd.cDesk)(O_signs_of:Own P w K mg base "signs_of" 1 ["numbers"] zfr)(O_is_name:Own P w K mg base "is_name" 1 ["word"] zff)(O_Boat:OwnC P w K mg base "Boat" cd.cBoat 1 ["self"] (zes cd))(O_Desk_has_wrong_bit:OwnM P w K mg base cd.cDesk "has_wrong_bit" 1 ["self","without"] (zbv cd))(O_Desk_proof_without:OwnM P w K mg base cd.cDesk "proof_without" 6 ["self","without"] (zbk cd))(O_penalty_of:Own P w K mg base "penalty_of" 2 ["boat","facts"] (zdy cd))(O_has_redress:Own P w K mg base "has_redress" 3 ["boat","facts"] (ze4 cd)):
  OwnM P w K mg base cd.cDesk "tell_boat" 7 ["self","without","name"] (zgp cd):=by
 refine zek D zcf zjx (fun vs H Q E h=>?_) (fun f cdv A outer s H vs Q E hr h=>?_)
 ·obtain ⟨H0,S,out,x,b,rfl,_⟩:=h;rfl
 ·obtain ⟨H0,S,out,x,b,rfl,R,hx,hbl,k⟩:=h;have hu:=zf8 hr;obtain ⟨vb1,vb2,vb3⟩:=zbe R.val;obtain ⟨nc1,nc2⟩:=zrq b;unfold tellQ at k;refine ⟨_,(zad (zat (i:=3) zcf.nd rfl (Or.inl rfl) (zar O_signs_of (hr.mono (by decide)) (zab (pv 2) zaf)))
   (zad (zav (zv7 (zev (zcl O_Desk_has_wrong_bit c_Desk (hr.mono (by decide)) (pv 0) (zab (pv 1) zaf))) (zq6 (zq7 (zev (zar O_is_name (hr.mono (by decide)) (zab (pv 3) zaf)))))).pt (zae (zak (zbd (zab (zal T.g_WRONG_BITS_OR_NAME) zaf)))) zam)
   (zad (zat (i:=4) zcf.nd rfl (Or.inl rfl) (zow hu (zah (zah (pv 0) rfl) rfl) (pv 3) (zf2 O_Boat (hr.mono (by decide))) ⟨rfl,rfl,rfl,rfl⟩))
   (zad (zat (i:=5) zcf.nd rfl (Or.inl rfl) (zah (zcl O_Desk_proof_without c_Desk (hr.mono (by decide)) (pv 0) (zab (pv 1) zaf)) rfl))
   (zae (zak (zbd (zab (zal T.g_DONE) (zab (zar O_penalty_of (hr.mono (by decide)) (zab (pv 4) (zab (pv 5) zaf))) (zab (zcj (zev (zar O_has_redress (hr.mono (by decide)) (zab (pv 4) (zab (pv 5) zaf)))) zan zan) zaf)))))))))),?_⟩
  refine zaq (fun σ' H'=>σ'=[some (.ref S.d),some (.int out),some (.ref x),some (.str (toS (b.map canon))),none,none]∧Same H H') ?_ ?_
  ·intro RR hRR;walk_at "rd2"
   exact ⟨x,b,rfl,hx,hbl,fun H1 S1=>hRR _ _ ⟨rfl,S1⟩⟩
  rintro σ1 H1 ⟨rfl,S1⟩;have R1:=R.sameR S1;refine zaq (fun σ' H'=>σ'=[some (.ref S.d),some (.int out),some (.ref x),some (.str (toS b)),none,none]∧H'=H1∧Wqatcy.bitsOk S.c out=true∧nameOk b=true) ?_ ?_
  ·intro RR hRR;walk_at "rd2"
   refine ⟨_,_,R1.obj,by rfl,H0,S,out,rfl,R1,_,rfl,?_⟩
   by_cases hb:Wqatcy.bitsOk S.c out=false
   ·rw [if_pos (by rw [hb];rfl)]
    rw [zgj (.inl hb)] at k;exact ⟨by decide,fun r hr=>k _ _ _ _ _ r (R1.sameR (Same.new hr)).zla zaa (R1.same.free hr)⟩
   ·have hb':Wqatcy.bitsOk S.c out=true:=by simpa using hb
    rw [if_neg (by rw [hb'];exact Bool.false_ne_true)]
    refine ⟨b.map canon,rfl,by rw [List.length_map];exact hbl,_,rfl,?_⟩
    rw [nc1];by_cases hn:nameOk b=false
    ·rw [hn];rw [zgj (.inr hn)] at k;exact ⟨by decide,fun r hr=>k _ _ _ _ _ r (R1.sameR (Same.new hr)).zla zaa (R1.same.free hr)⟩
    ·have hn':nameOk b=true:=by simpa using hn
     rw [hn'];rw [nc2 hn'];exact hRR _ _ ⟨rfl,rfl,hb',hn'⟩
  rintro σ2 H2 ⟨rfl,rfl,hb,hn⟩;rw [zoe R.val hb hn] at k;obtain ⟨q,hq⟩:∃ q,q=boatA S.c b:=⟨_,rfl⟩;have hql:q.pens.length≤1000∧q.reds.length≤1000:=by
   have:=zuz (c:=S.c) b;rw [←hq] at this;omega
  obtain ⟨fs,hfs⟩:∃ fs,fs=factsL (outs S.c out):=⟨_,rfl⟩;rw [←hq,←hfs] at k;refine zaq (fun σ' H'=>∃ H0' p pn rd ts,σ'=[some (.ref S.d),some (.int out),some (.ref x),some (.str (toS b)),some (.ref p),none]∧DeskRep cd H0' H' S∧Same H0 H0'∧∀ H3 ks g lg tg,DeskRep cd H0' H3 (S.with ks g lg tg)→BoatAt cd H3 p pn rd ts q) ?_ ?_
  ·intro RR hRR;have hc:=R1.inn.cells;walk_at "rd2"
   refine fget R1.obj CD.cl CD.n2 (zck ..) ⟨_,rfl,fget hc.case CC.cl CC.n6 (zvk ..) ⟨_,rfl,.inl ⟨_,.inl hc.boats⟩,fun y dy ny ndy ndyy=>?_⟩⟩;refine ⟨y,dy,rfl,zaa,fun H3 pn rd h1 h2 h3 n1 n2 hne hB=>⟨rfl,?_⟩⟩;have S3:=zfk ny ndy hB;have R3:=R1.sameR S3;refine ⟨_,zd1 R3.inn.cells.boats b,?_⟩;by_cases hin:b∈boatNames S.c
   ·rw [if_pos (show b∈(absOf S.c).bnames from hin)]
    have hi:=List.idxOf_lt_length_of_mem hin;have hqk:(absOf S.c).boats[(absOf S.c).bnames.idxOf b]? = some q:=by
     show ((boatNames S.c).map (boatA S.c))[(boatNames S.c).idxOf b]? = _;rw [List.getElem?_map,List.getElem?_eq_getElem hi,List.getElem_idxOf hi,hq];rfl
    exact hRR _ _ ⟨H0,_,_,_,_,rfl,R3,Same.refl H0,fun H4 ks g lg tg R4=>Cells.boatAt (L:=S.L) (A:=absOf S.c) R4.inn.cells hqk⟩
   ·rw [if_neg (show ¬ b∈(absOf S.c).bnames from hin)]
    rw [zn1 hin] at hq;obtain ⟨R4,S4⟩:=R1.besides (fun z=>z=y∨z=pn∨z=rd) (fun z hz=>hz.elim (fun e=>e▸ny) fun hz=>hz.elim (fun e=>e▸zb1 n1) fun e=>e▸zb1 n2) S3;refine hRR _ _ ⟨_,y,pn,rd,[],rfl,R4,S4,fun H4 ks g lg tg R5=>?_⟩;rw [hq];refine ⟨⟨dy,R5.same _ _ (by rw [zc5 (.inl rfl)];exact h1)⟩,R5.same _ _ (by rw [zc5 (.inr (.inl rfl))];exact h2),.nil,R5.same _ _ (by rw [zc5 (.inr (.inr rfl))];exact h3)⟩
  rintro σ3 H3 ⟨H0',p,pn,rd,ts,rfl,R3,S03,hboat⟩;refine zaq (fun σ' H'=>∃ ks g lg tg,σ'=[some (.ref S.d),some (.int out),some (.ref x),some (.str (toS b)),some (.ref p),some (.int (fs:Nat))]∧DeskRep cd H0' H' (S.with ks g lg tg)) ?_ ?_
  ·intro RR hRR;walk_at "rd2"
   refine ⟨_,_,R3.obj,by rfl,H0',S,out,rfl,R3,zp0 R.val hb,fun H4 ks g lg tg R4 hP=>?_⟩
   obtain ⟨dx,hobj⟩:=hP.obj;exact ⟨_,rfl,fget hobj CP.cl CP.n2 (zin ..) (hRR _ _ ⟨ks,g,lg,tg,by rw [hfs],R4⟩)⟩
  rintro σ4 H4 ⟨ks,g,lg,tg,rfl,R4⟩;have hb4:=hboat H4 ks g lg tg R4;walk_at "rd2"
  refine ⟨p,pn,rd,ts,q,fs,rfl,hb4,hql.1,fun H5 S5=>⟨p,pn,rd,ts,q,fs,rfl,hb4.same S5,hql.1,hql.2,fun H6 S6=>⟨_,rfl,?_⟩⟩⟩;have R6:=(R4.sameR S5).sameR S6;by_cases hh:(penMax fs q==0&&redA fs q)=true
  ·rw [if_pos hh] at k ⊢;exact ⟨by decide,fun r hr=>k _ _ _ _ _ r ((R6.sameR (Same.new hr)).weak S03) zaa ((S03.trans R6.same).free hr)⟩
  ·rw [if_neg hh] at k ⊢;exact ⟨by decide,fun r hr=>k _ _ _ _ _ r ((R6.sameR (Same.new hr)).weak S03) zaa ((S03.trans R6.same).free hr)⟩
end
end
section
open PySem PySem.Spec PyProof.Rows L2
open RgCase (Bytes ascii nameOk claimName cutAt Line Cond Name Case numbersIn caseText)
def zjc:Sp:=fun vs H Q _=>∃ n:Nat,vs=[.int n]∧n≤8∧∀ (H':Hp) (r:Addr) (l:List Nat),H' r=some (.lst (natV l))→l.Perm (List.range' 1 (2^n - 1))→l.Pairwise (fun a b=>setKey a≤setKey b)→H r=none→Same H H'→Q (.ref r) H'
section
variable {P:Program}{w:World}{K:PySem.W.Frag}{mg:Str→Option Value}{base:Heap}{ad:Ads}{cd:Cds}
def zgn (cd:Cds):Sp:=fun vs H Q _=>∃ (H0:Hp) (S:Dk) (i:Nat),vs=[.ref S.d,.int i]∧DeskRep cd H0 H S∧tellQ cd H0 S (.turn i) Q
theorem zql {c:Case}{i:Nat}(hi:¬ i<(RgCase.claims c).length):Wqatcy.told c (.turn i)=Wqatcy.NO:=by
 show (match (RgCase.claims c)[i]? with | some _=>_ | none=>Wqatcy.NO)=_
 rw [List.getElem?_eq_none (by omega)]
theorem zmh {c:Case}{i:Nat}(hi:i<(RgCase.claims c).length)(h:RgCase.turnBy (RgCase.knownOf c) (RgCase.witnesses c).length i=none):Wqatcy.told c (.turn i)=Wqatcy.NONE:=by
 show (match (RgCase.claims c)[i]? with | some _=>(match RgCase.turnBy (RgCase.knownOf c) (RgCase.witnesses c).length i with | some b=>(⟨((numbersIn b).length:Int),[b]⟩:Wqatcy.Ans) | none=>Wqatcy.NONE) | none=>Wqatcy.NO)=_
 rw [List.getElem?_eq_getElem hi,h]
theorem zmg {c:Case}{i b:Nat}(hi:i<(RgCase.claims c).length)(h:RgCase.turnBy (RgCase.knownOf c) (RgCase.witnesses c).length i=some b):Wqatcy.told c (.turn i)=⟨((numbersIn b).length:Int),[b]⟩:=by
 show (match (RgCase.claims c)[i]? with | some _=>(match RgCase.turnBy (RgCase.knownOf c) (RgCase.witnesses c).length i with | some b=>(⟨((numbersIn b).length:Int),[b]⟩:Wqatcy.Ans) | none=>Wqatcy.NONE) | none=>Wqatcy.NO)=_
 rw [List.getElem?_eq_getElem hi,h]
theorem zux {H:Hp}{p l:Addr}{ts:List Addr}{c:Case}{out i:Nat}{o:Nat×Nat}(hP:ProofAt cd H p l ts (outs c out))(ho:(outs c out)[i]? = some o):∃ t,ts[i]? = some t∧H t=some (.tup (outV o)):=by
 have hl:ts.length=(outs c out).length:=Paired.length hP.tup;have hi2:i<ts.length:=by rw [hl];exact (List.getElem?_eq_some_iff.mp ho).1
 obtain ⟨b,hb1,hb2⟩:=zcu hP.tup (List.getElem?_eq_getElem hi2);rw [ho] at hb1;cases hb1;exact ⟨_,List.getElem?_eq_getElem hi2,hb2⟩
def ttP (cd:Cds)(H0:Hp)(S:Dk)(i:Nat)(y0:Nat×Nat)(l:List Nat)(j:Nat)(σ:L2.St)(H':Hp):Prop:=∃ (v3:Option V) (ks:List Nat) (g lg:Nat→Addr) (tg:Nat→List Addr),σ=[some (.ref S.d),some (.int i),some (.int (y0.1:Nat)),v3]∧
 DeskRep cd H0 H' (S.with ks g lg tg)∧∀ a∈l.take j,∀ z,(outs S.c a)[i]? = some z→z.1=y0.1
abbrev zbx:Stmt:=inClass (top 84) 11
theorem zdc:FnScope ["self","number","verdict","bits"] ["self","number"] (defScope zbx):=⟨rfl,rfl,rfl,by decide +kernel,rfl,by decide +kernel,by decide +kernel⟩
theorem zjv:BindOk "tell_turn" "Desk.tell_turn" zbx ["self","number"]:=fun _ _ _ _ _ _=>ls2 fun _ _=>rfl
theorem zrg (D:MethAt K cd.cDesk "tell_turn" "Desk.tell_turn" zbx)(T:TxtR mg)(CD:ClsDesk K cd.cDesk)(CC:ClsCase K cd.cCase)(CP:ClsProof K cd.cProof)(c_Desk:Cls K cd.cDesk)(O_Desk_proof_without:OwnM P w K mg base cd.cDesk "proof_without" 6 ["self","without"] (zbk cd))(O_sets_of:Own P w K mg base "sets_of" 6 ["witnesses"] zjc)(O_members_of:Own P w K mg base "members_of" 1 ["bits"] zdz):
  OwnM P w K mg base cd.cDesk "tell_turn" 7 ["self","number"] (zgn cd):=by
 refine zek D zdc zjv (fun vs H Q E h=>?_) (fun f cdv A outer s H vs Q E hr h=>?_)
 ·obtain ⟨H0,S,i,rfl,_⟩:=h;rfl
 ·obtain ⟨H0,S,i,rfl,R,k⟩:=h;have hc:=R.inn.cells;obtain ⟨vb1,vb2,vb3⟩:=zbe R.val;unfold tellQ at k;refine ⟨_,(zad (zav (zai zv8 (pv 1) (zao zap (by rfl) T.b_len PySem.boot_len (zab (zah (zah (pv 0) rfl) rfl) zaf)) (nomark _)) (zae (zak (zbd (zab (zal T.g_NO_SUCH) zaf)))) zam)
   (zad (zat (i:=2) zdc.nd rfl (Or.inl rfl) (zbt zl4 (zbt zax (zah (zcl O_Desk_proof_without c_Desk (hr.mono (by decide)) (pv 0) (zab zan zaf)) rfl) (pv 1) (fun _ _=>rfl)) zan (fun _ _=>rfl)))
   (zad (zim PassesOwn.never rfl (zfb (zar O_sets_of (hr.mono (by decide)) (zab (zao zap (by rfl) T.b_len PySem.boot_len (zab (zah (zah (pv 0) rfl) rfl) zaf)) zaf))) (zbj (i:=3) zdc.nd rfl (Or.inl rfl))
    (zae (zav (zai zmp (zbt zl4 (zbt zax (zah (zcl O_Desk_proof_without c_Desk (hr.mono (by decide)) (pv 0) (zab (pv 3) zaf)) rfl) (pv 1) (fun _ _=>rfl)) zan (fun _ _=>rfl)) (pv 2) (nomark _)) (zae (zak (zbd (zab (zao zap (by rfl) T.b_len PySem.boot_len (zab (zar O_members_of (hr.mono (by decide)) (zab (pv 3) zaf)) zaf)) (zab (pv 3) zaf))))) zam)))
   (zae (zak (zbd (zab (zal T.g_NONE_TURNS) zaf))))))),?_⟩
  refine zaq (fun σ' H'=>σ'=[some (.ref S.d),some (.int i),none,none]∧H'=H∧i<(RgCase.claims S.c).length) ?_ ?_
  ·intro RR hRR;walk_at "rd2"
   refine fget R.obj CD.cl CD.n2 (zck ..) ⟨_,rfl,fget hc.case CC.cl CC.n2 (zdn ..) ⟨_,lenL hc.claims,?_⟩⟩;rw [zci,za9];by_cases hi:i<(RgCase.claims S.c).length
   ·rw [if_neg (by omega)]
    exact hRR _ _ ⟨rfl,rfl,hi⟩
   ·rw [if_pos (by omega)]
    rw [zql hi] at k;exact ⟨by decide,fun r hr=>k _ _ _ _ _ r (R.sameR (Same.new hr)).zla zaa (R.same.free hr)⟩
  rintro σ1 H1 ⟨rfl,rfl,hi⟩;obtain ⟨y0,hy0⟩:=zls (c:=S.c) 0 hi;refine zaq (fun σ' H'=>∃ ks g lg tg,σ'=[some (.ref S.d),some (.int i),some (.int (y0.1:Nat)),none]∧DeskRep cd H0 H' (S.with ks g lg tg)) ?_ ?_
  ·intro RR hRR;walk_at "rd2"
   refine ⟨_,_,R.obj,by rfl,H0,S,0,rfl,R,by omega,fun H2 ks g lg tg R2 hP=>?_⟩
   obtain ⟨dx,hobj⟩:=hP.obj;obtain ⟨t,ht1,ht2⟩:=zux hP hy0;exact ⟨_,rfl,fget hobj CP.cl CP.n1 (zio ..) ⟨_,rfl,_,SqL.of hP.lst,_,zaj (by rw [List.getElem?_map,ht1];rfl),_,rfl,outV y0,SqT.of ht2,_,zaj (j:=0) rfl,hRR _ _ ⟨ks,g,lg,tg,rfl,R2⟩⟩⟩
  rintro σ2 H2 ⟨ks,g,lg,tg,rfl,R2⟩;refine zaq (fun σ' H'=>∃ (v3:Option V) (ks:List Nat) (g lg:Nat→Addr) (tg:Nat→List Addr),σ'=[some (.ref S.d),some (.int i),some (.int (y0.1:Nat)),v3]∧DeskRep cd H0 H' (S.with ks g lg tg)∧RgCase.turnBy (RgCase.knownOf S.c) (RgCase.witnesses S.c).length i=none) ?_ ?_
  ·intro RR hRR;have hc2:=R2.inn.cells;have hlw:((absOf S.c).weights.map fun (w:Nat)=>V.int w).length=(RgCase.witnesses S.c).length:=by rw [List.length_map,wlen]
   refine ⟨_,rfl,_,_,_,_,_,rfl,R2.obj,CD.cl,CD.n2,zck ..,_,_,_,_,_,rfl,hc2.case,CC.cl,CC.n4,zez ..,_,_,rfl,lenL hc2.weights,?_⟩;refine ⟨(RgCase.witnesses S.c).length,by rw [←hlw];rfl,vb3,fun H3 r l h3 hp hs nr S3=>?_⟩
   obtain ⟨R3,S03⟩:=R2.besides (fun z=>z=r) (fun z hz=>hz▸nr) S3;have hr0:beside H0 H3 (fun z=>z=r) r=some (.lst (natV l)):=by rw [zc5 (S:=fun z=>z=r) rfl];exact h3
   refine ⟨r,rfl,⟨_,SqL.of h3⟩,zk7 (K:=K) (a:=r) (xs:=natV l) (ttP cd (beside H0 H3 fun z=>z=r) S i y0 l) ⟨none,ks,g,lg,tg,rfl,R3,by simp⟩ (fun j σ H' _ ⟨_,_,_,_,_,_,R',_⟩=>SqL.of (R'.same _ _ hr0)) ?_ ?_⟩
   ·rintro j y σ H' hy ⟨v3,ks,g,lg,tg,rfl,R',hall⟩;obtain ⟨b,hb,rfl⟩:∃ b,l[j]? = some b∧y=V.int (b:Nat):=by
     unfold natV at hy;rw [List.getElem?_map] at hy;cases e:l[j]? with
     | none=>rw [e] at hy;cases hy
     | some b=>
      rw [e] at hy;exact ⟨b,rfl,(Option.some.inj hy).symm⟩
    have hbm:b<2^(RgCase.witnesses S.c).length:=by
     have:=hp.mem_iff.mp (List.mem_of_getElem? hb);rw [List.mem_range'_1] at this;omega
    have hb256:b<256:=by
     have h2:(2:Nat)^(RgCase.witnesses S.c).length≤2^8:=Nat.pow_le_pow_right (by omega) vb3
     omega
    obtain ⟨y1,hy1⟩:=zls (c:=S.c) b hi;walk_at "rd2"
    refine ⟨_,_,R'.obj,by rfl,_,S.with ks g lg tg,b,rfl,R',hb256,fun H4 ks4 g4 lg4 tg4 R4 hP=>?_⟩
    obtain ⟨dx,hobj⟩:=hP.obj;obtain ⟨t,ht1,ht2⟩:=zux hP hy1;refine ⟨_,rfl,fget hobj CP.cl CP.n1 (zio ..) ⟨_,rfl,_,SqL.of hP.lst,_,zaj (by rw [List.getElem?_map,ht1];rfl),_,rfl,outV y1,SqT.of ht2,_,zaj (j:=0) rfl,rfl,?_⟩⟩
    have htk:l.take (j+1)=l.take j++[b]:=by rw [List.take_add_one,hb];rfl
    simp only [V.int.injEq];by_cases hne:y1.1=y0.1
    ·rw [if_neg (by intro z;exact z (by rw [hne]))]
     refine ⟨_,ks4,g4,lg4,tg4,rfl,R4,fun a ha z hz=>?_⟩;rw [htk] at ha;rcases List.mem_append.mp ha with ha | ha
     ·exact hall a ha z hz
     ·rw [List.mem_singleton.mp ha,hy1] at hz;cases hz;exact hne
    ·rw [if_pos (by intro z;exact hne (Int.ofNat.inj z))]
     have hl:l=l.take j++b::l.drop (j+1):=by
      obtain ⟨h1,h2⟩:=List.getElem?_eq_some_iff.mp hb;rw [←h2,←List.drop_eq_getElem_cons h1,List.take_append_drop]
     rw [hl] at hp hs;have htb:=zxj vb3 hi hp hs hy0 hall hy1 hne;rw [zmg hi htb] at k;refine ⟨b,rfl,hb256,fun H5 m h5 n5 S5=>⟨_,lenL h5,by decide,fun rr hrr=>?_⟩⟩
     have R5:=R4.sameR S5;refine k _ ks4 g4 lg4 tg4 rr ((R5.sameR (Same.new hrr)).weak S03) ?_ ((S03.trans R5.same).free hrr);rw [zaa];unfold natV;rw [List.length_map];rfl
   ·rintro σ H' ⟨v3,ks,g,lg,tg,rfl,R',hall⟩;have hln:(natV l).length=l.length:=List.length_map _;rw [hln,List.take_length] at hall;exact hRR _ _ ⟨v3,ks,g,lg,tg,rfl,R'.weak S03,zxk hi hp hy0 hall⟩
  rintro σ3 H3 ⟨v3,ks,g,lg,tg,rfl,R3,ht⟩;walk_at "rd2"
  rw [zmh hi ht] at k;exact ⟨by decide,fun r hr=>k _ ks g lg tg r (R3.sameR (Same.new hr)) zaa (R3.same.free hr)⟩
end
end
section
open PySem PySem.Spec PyProof.Rows L2
open RgCase (Bytes ascii nameOk claimName cutAt Line Cond Name Case numbersIn caseText)
def lay0 (p dx cl nu we wi bo:Addr):Lay:=⟨fun t=>match t with | .case=>p | .claims=>cl | .nums=>nu | .weights=>we | .wits=>wi | .boats=>bo | _=>0,fun _=>dx⟩
section
variable {P:Program}{w:World}{K:PySem.W.Frag}{mg:Str→Option Value}{base:Heap}{ad:Ads}{cd:Cds}
theorem obj0 {L:Lay}{t:Tag}{o:HO}(e:obj cd L (absOf []) t=some o):t=.case∨t=.claims∨t=.nums∨t=.weights∨t=.wits∨t=.boats:=by
 cases t with
 | claim i=>
  rw [show obj cd L (absOf []) (.claim i)=none from rfl] at e
  cases e
 | words i=>
  rw [show obj cd L (absOf []) (.words i)=none from rfl] at e
  cases e
 | rules i=>
  rw [show obj cd L (absOf []) (.rules i)=none from rfl] at e
  cases e
 | rule i j=>
  rw [show obj cd L (absOf []) (.rule i j)=none from rfl] at e
  cases e
 | boat i=>
  rw [show obj cd L (absOf []) (.boat i)=none from rfl] at e
  cases e
 | pens i=>
  rw [show obj cd L (absOf []) (.pens i)=none from rfl] at e
  cases e
 | reds i=>
  rw [show obj cd L (absOf []) (.reds i)=none from rfl] at e
  cases e
 | pen i j=>
  rw [show obj cd L (absOf []) (.pen i j)=none from rfl] at e
  cases e
 | _=>simp
theorem rep_new {H1 H':Hp}{p dx cl nu we wi bo:Addr}(np:H1 p=none)(nd:H1 dx=none)(N:NewCase cd (upd (upd H1 dx (.own p)) p (.ins cd.cCase dx [])) H' p dx cl nu we wi bo):Rep cd H1 H' (lay0 p dx cl nu we wi bo) (absOf []):=by
 have a1:cl≠nu:=zdd N.hcl N.hnu (by intro z;cases z)
 have a2:cl≠wi:=zdd N.hcl N.hwi (by intro z;cases z)
 have a3:cl≠bo:=zdd N.hcl N.hbo (by intro z;cases z)
 have a4:we≠nu:=zdd N.hwe N.hnu (by intro z;cases z)
 have a5:we≠wi:=zdd N.hwe N.hwi (by intro z;cases z)
 have a6:we≠bo:=zdd N.hwe N.hbo (by intro z;cases z)
 have p1:p≠cl:=zdd N.obj N.hcl (by intro z;cases z)
 have p2:p≠nu:=zdd N.obj N.hnu (by intro z;cases z)
 have p3:p≠we:=zdd N.obj N.hwe (by intro z;cases z)
 have p4:p≠wi:=zdd N.obj N.hwi (by intro z;cases z)
 have p5:p≠bo:=zdd N.obj N.hbo (by intro z;cases z)
 refine ⟨fun t o e=>?_,fun t t' o o' e e' q=>?_,fun t o e=>?_,zfk np nd N.but,rfl,Nat.le_refl _⟩
 ·rcases obj0 e with rfl | rfl | rfl | rfl | rfl | rfl
  ·cases e;exact N.obj
  ·cases e;exact N.hcl
  ·cases e;exact N.hnu
  ·cases e;exact N.hwe
  ·cases e;exact N.hwi
  ·cases e;exact N.hbo
 ·have d1:=N.d1;have d2:=N.d2;have d3:=N.d3;have d4:=N.d4;rcases obj0 e with rfl | rfl | rfl | rfl | rfl | rfl <;> rcases obj0 e' with rfl | rfl | rfl | rfl | rfl | rfl <;> first | rfl | (exfalso;simp only [lay0] at q;first | exact absurd q (by assumption) | exact absurd q.symm (by assumption))
 ·rcases obj0 e with rfl | rfl | rfl | rfl | rfl | rfl
  ·exact np
  ·exact zb1 N.ncl
  ·exact zb1 N.nnu
  ·exact zb1 N.nwe
  ·exact zb1 N.nwi
  ·exact zb1 N.nbo
theorem zvf {H0 H H':Hp}{d dx x pr:Addr}{L:Lay}{c:Case}{t:Bytes}(hs:Same H0 H)(R:Rep cd H H' L (absOf c))(hv:Valid c)(ht:caseText c=t)(hl:t.length≤65536)(hd:∃ o,H d=some o)(hx:H x=some (.lst (bytV t)))(nd:H0 d=none)(nx:H0 x=none)(npr:H' pr=none)(hxd:x≠d):
  DeskRep cd H0 (upd (upd H' pr (.dK [])) d (.ins cd.cDesk dx (deskF x (L.pl .case) pr))) ⟨d,dx,x,L,pr,[],fun _=>0,fun _=>0,fun _=>[],c⟩:=by
 obtain ⟨od,hod⟩:=hd;have hdp:d≠pr:=fun e=>by rw [←e,R.same _ _ hod] at npr;cases npr
 have hxp:x≠pr:=fun e=>by rw [←e,R.same _ _ hx] at npr;cases npr
 have inner:∀ q,(Dk.Inner ⟨d,dx,x,L,pr,[],fun _=>0,fun _=>0,fun _=>[],c⟩ cd q)→q=x∨∃ t o,obj cd L (absOf c) t=some o∧q=L.pl t:=fun q hq=>by
  rcases hq with h | h | ⟨o,ho,_⟩
  ·exact .inl h
  ·exact .inr h
  ·cases ho
 have hne:∀ q,(q=x∨∃ t o,obj cd L (absOf c) t=some o∧q=L.pl t)→q≠pr∧q≠d:=fun q hq=>by
  rcases hq with rfl | ⟨t,o,e,rfl⟩
  ·exact ⟨hxp,hxd⟩
  ·refine ⟨fun z=>?_,fun z=>?_⟩
   ·rw [←z,R.cells t o e] at npr;cases npr
   ·have:=R.new t o e;rw [z,hod] at this;cases this
 have keep:∀ q o,(q=x∨∃ t o,obj cd L (absOf c) t=some o∧q=L.pl t)→H' q=some o→upd (upd H' pr (.dK [])) d (.ins cd.cDesk dx (deskF x (L.pl .case) pr)) q=some o:=fun q o hq e=>by
  rw [zac (hne q hq).2,zac (hne q hq).1];exact e
 have S1:=hs.trans R.same;refine ⟨zaa,⟨?_,fun t o e=>keep _ _ (.inr ⟨t,o,e,rfl⟩) (R.cells t o e),fun o ho=>(by cases ho)⟩,hv,?_,List.nodup_nil,fun o ho=>(by cases ho),fun q hq=>hne q (inner q hq),fun q hq=>?_,fun q o e=>?_,(by show (caseText c).length≤65536;rw [ht];exact hl)⟩
 ·refine keep _ _ (.inl rfl) ?_;show H' x=some (.lst (bytV (caseText c)));rw [ht];exact R.same _ _ hx
 ·show upd (upd H' pr (.dK [])) d _ pr=_;rw [zac (Ne.symm hdp),zaa];rfl
 ·rcases hq with hq | rfl | rfl
  ·rcases inner q hq with rfl | ⟨t,o,e,rfl⟩
   ·exact nx
   ·exact hs.free (R.new t o e)
  ·exact nd
  ·exact S1.free npr
 ·rw [zac (fun z=>by rw [z,nd] at e;cases e),zac (zag (S1 _ _ e) npr)]
  exact S1 _ _ e
def zgw (cd:Cds):Sp:=fun vs H Q _=>∃ (H0:Hp) (p dx:Addr),vs=[.ref p]∧H p=some (.ins cd.cDesk dx [])∧H0 p=none∧Same H0 H∧∀ H' S,S.d=p→S.c=[]→DeskRep cd H0 H' S→Q .non H'
abbrev zca:Stmt:=inClass (top 84) 0
theorem zkm:FnScope ["self"] ["self"] (defScope zca):=⟨rfl,rfl,rfl,by decide +kernel,rfl,by decide +kernel,by decide +kernel⟩
theorem zkz:BindOk "__init__" "Desk.__init__" zca ["self"]:=fun _ _ _ _ _ _=>ls1 fun _=>rfl
theorem ok_Desk (D:ClassAt K mg "Desk" cd.cDesk "Desk.__init__" zca)(T:TxtR mg)(CD:ClsDesk K cd.cDesk)(O_Case:OwnC P w K mg base "Case" cd.cCase 1 ["self"] (zer cd)):OwnC P w K mg base "Desk" cd.cDesk 3 ["self"] (zgw cd):=by
 refine zh5 D zkm zkz (fun vs H Q E h=>?_) (fun f cdv A outer s H vs Q E hr h=>?_)
 ·obtain ⟨H0,p,dx,rfl,_⟩:=h;rfl
 ·obtain ⟨H0,p,dx,rfl,hp,np,S0,k⟩:=h;have hu:=zf8 hr;refine ⟨_,(zad (zbc (pv 0) (zbd zaf) rfl)
   (zad (zbc (pv 0) (zf2 O_Case (hr.mono (by decide))) rfl)
   (zae (zbc (pv 0) zf3 rfl)))),?_⟩
  walk_at "rd2"
  refine ⟨Nat.zero_le _,fun x hx=>?_⟩;have npx:p≠x:=zag hp hx;refine ⟨_,_,_,by rw [zac npx];exact hp,CD.cl,CD.n1,(by show 0<1000;decide),fun y dy ny ndy ndyy=>?_⟩
  refine ⟨y,dy,rfl,zaa,fun H2 cl nu we wi bo N=>⟨rfl,?_⟩⟩;have R:=rep_new ny ndy N;have hp2:=R.same _ _ zaa;refine ⟨_,_,_,hp2,CD.cl,CD.n2,(by show 1<1000;decide),fun pr hpr=>?_⟩
  have npp:p≠pr:=fun e=>by rw [←e,zaa] at hpr;cases hpr
  refine ⟨_,_,_,by rw [zac npp,zaa],CD.cl,CD.n3,(by show 2<1000;decide),?_⟩
  rw [zac (Ne.symm npp)] at hpr;have S1:Same H0 (upd (upd H x (.lst [])) p (.ins cd.cDesk dx (putF "text" (V.ref x) []))):=fun q o e=>by
   rw [zac (fun z=>by rw [z,np] at e;cases e),zac (zag (S0 _ _ e) hx)]
   exact S0 _ _ e
  have hx1:upd (upd H x (.lst [])) p (.ins cd.cDesk dx (putF "text" (V.ref x) [])) x=some (.lst (bytV [])):=by rw [zac (Ne.symm npx),zaa];rfl
  have D1:=zvf (dx:=dx) S1 R .nil rfl (Nat.zero_le _) ⟨_,zaa⟩ hx1 np (S0.free hx) hpr (Ne.symm npx);have e:(upd (upd (upd H2 p (.ins cd.cDesk dx (putF "case" (V.ref y) (putF "text" (V.ref x) [])))) pr (.dK [])) p (.ins cd.cDesk dx (putF "proofs" (V.ref pr) (putF "case" (V.ref y) (putF "text" (V.ref x) [])))))=upd (upd H2 pr (.dK [])) p (.ins cd.cDesk dx (deskF x y pr)):=by
   funext q
   by_cases z1:q=p
   ·subst z1;rw [zaa,zaa];rfl
   ·rw [zac z1,zac z1];by_cases z2:q=pr
    ·subst z2;rw [zaa,zaa]
    ·rw [zac z2,zac z2,zac z1]
  rw [e];exact k _ ⟨p,dx,x,lay0 y dy cl nu we wi bo,pr,[],fun _=>0,fun _=>0,fun _=>[],[]⟩ rfl rfl D1
def takeQ (cd:Cds)(H0:Hp)(S:Dk)(t:Bytes)(Q:VK):Prop:=∀ H' S' r,S'.d=S.d→S'.c=(Wqatcy.taken S.c t).1→DeskRep cd H0 H' S'→H' r=some (.lst (ansV (Wqatcy.taken S.c t).2))→H0 r=none→Q (.ref r) H'
def zoj (cd:Cds):Sp:=fun vs H Q _=>∃ (H0:Hp) (S:Dk) (x:Addr) (t:Bytes),vs=[.ref S.d,.ref x]∧DeskRep cd H0 H S∧H x=some (.lst (bytV t))∧H0 x=none∧takeQ cd H0 S t Q
theorem zvv {c:Case}{t:Bytes}(h:65536<t.length):Wqatcy.taken c t=(c,Wqatcy.MUCH):=by
 unfold Wqatcy.taken;rw [if_pos (by exact h)]
theorem taken_ok {c d:Case}{t:Bytes}(h:¬ 65536<t.length)(hr:RgCase.readCase t=.ok d):Wqatcy.taken c t=(d,Wqatcy.says 0):=by
 unfold Wqatcy.taken;rw [if_neg (by exact h),hr]
theorem zxp {c:Case}{t:Bytes}{e:Nat×Nat}(h:¬ 65536<t.length)(hr:RgCase.readCase t=.error e):Wqatcy.taken c t=(c,Wqatcy.faultAt e):=by
 unfold Wqatcy.taken;rw [if_neg (by exact h),hr]
abbrev zei:Stmt:=inClass (top 84) 1
theorem zg0:FnScope ["self","text","case","fault"] ["self","text"] (defScope zei):=⟨rfl,rfl,rfl,by decide +kernel,rfl,by decide +kernel,by decide +kernel⟩
theorem zsr:BindOk "take" "Desk.take" zei ["self","text"]:=fun _ _ _ _ _ _=>ls2 fun _ _=>rfl
theorem ok_take (D:MethAt K cd.cDesk "take" "Desk.take" zei)(T:TxtR mg)(CD:ClsDesk K cd.cDesk)(O_Case:OwnC P w K mg base "Case" cd.cCase 1 ["self"] (zer cd))(O_enter_text:Own P w K mg base "enter_text" 5 ["case","text"] (zfs cd)):
  OwnM P w K mg base cd.cDesk "take" 6 ["self","text"] (zoj cd):=by
 refine zek D zg0 zsr (fun vs H Q E h=>?_) (fun f cdv A outer s H vs Q E hr h=>?_)
 ·obtain ⟨H0,S,x,t,rfl,_⟩:=h;rfl
 ·obtain ⟨H0,S,x,t,rfl,R,hx,nx,k⟩:=h;have hu:=zf8 hr;unfold takeQ at k;refine ⟨_,(zad (zav (zai zoz (zao zap (by rfl) T.b_len PySem.boot_len (zab (pv 1) zaf)) (zal T.g_MOST_BYTES) (nomark _)) (zae (zak (zbd (zab (zal T.g_TOO_LONG) zaf)))) zam)
   (zad (zat (i:=2) zg0.nd rfl (Or.inl rfl) (zf2 O_Case (hr.mono (by decide))))
   (zad (zat (i:=3) zg0.nd rfl (Or.inl rfl) (zar O_enter_text (hr.mono (by decide)) (zab (pv 2) (zab (pv 1) zaf))))
   (zad (zav (zai zoz (zao zap (by rfl) T.b_len PySem.boot_len (zab (pv 3) zaf)) zan (nomark _)) (zae (zak (zc6 zre (zbd (zab (zal T.g_FAULTY) zaf)) (pv 3)))) zam)
   (zad (zbc (pv 0) (pv 1) rfl)
   (zad (zbc (pv 0) (pv 2) rfl)
   (zad (zbc (pv 0) zf3 rfl)
   (zae (zak (zbd (zab (zal T.g_DONE) zaf))))))))))),?_⟩
  refine zaq (fun σ' H'=>σ'=[some (.ref S.d),some (.ref x),none,none]∧H'=H∧¬ 65536<t.length) ?_ ?_
  ·intro RR hRR;walk_at "rd2"
   refine ⟨_,lenL hx,?_⟩;rw [zgf];by_cases hl:65536<t.length
   ·rw [if_pos (by omega)]
    rw [zvv hl] at k;exact ⟨by decide,fun r hr=>k _ S r rfl rfl (R.sameR (Same.new hr)) zaa (R.same.free hr)⟩
   ·rw [if_neg (by omega)]
    exact hRR _ _ ⟨rfl,rfl,hl⟩
  rintro σ1 H1 ⟨rfl,rfl,hl⟩;refine zaq (fun σ' H'=>∃ L,σ'=[some (.ref S.d),some (.ref x),some (.ref (L.pl .case)),none]∧Rep cd H1 H' L (absOf [])) ?_ ?_
  ·intro RR hRR;walk_at "rd2"
   intro y dy ny ndy ndyy;exact ⟨y,dy,rfl,zaa,fun H2 cl nu we wi bo N=>⟨rfl,hRR _ _ ⟨lay0 y dy cl nu we wi bo,rfl,rep_new ny ndy N⟩⟩⟩
  rintro σ2 H2 ⟨L,rfl,R2⟩;refine zaq (fun σ' H'=>∃ r L',σ'=[some (.ref S.d),some (.ref x),some (.ref (L'.pl .case)),some (.ref r)]∧((∃ d,RgCase.readCase t=.ok d∧Rep cd H1 H' L' (absOf d)∧H' r=some (.lst []))∨(∃ i e,RgCase.readCase t=.error (i,e)∧Same H1 H'∧H' r=some (.lst [.int (i:Nat),.int (e:Nat)])))) ?_ ?_
  ·intro RR hRR;walk_at "rd2"
   refine ⟨H1,L,x,t,rfl,R2,hx,by omega,fun d hd H3 L' r hpl R3 h3=>?_,fun i e he H3 r S3 h3=>?_⟩
   ·exact hRR _ _ ⟨r,L',by rw [hpl],.inl ⟨d,hd,R3,h3⟩⟩
   ·exact hRR _ _ ⟨r,L,rfl,.inr ⟨i,e,he,S3,h3⟩⟩
  rintro σ3 H3 ⟨r,L',rfl,⟨d,hd,R3,h3⟩ | ⟨i,e,he,S3,h3⟩⟩
  ·rw [taken_ok hl hd] at k;obtain ⟨ht,hv⟩:=zik hd;walk_at "rd2"
   refine ⟨_,lenL h3,?_⟩;rw [if_neg (by simp)]
   have hobj:=R3.same _ _ R.obj;refine ⟨_,_,_,hobj,CD.cl,CD.n1,(by show 3<1000;decide),_,_,_,zaa,CD.cl,CD.n2,(by show 3<1000;decide),fun pr hpr=>?_⟩
   have ndp:S.d≠pr:=fun z=>by rw [←z,zaa] at hpr;cases hpr
   refine ⟨_,_,_,by rw [zac ndp,zaa],CD.cl,CD.n3,(by show 3<1000;decide),by decide,fun r2 hr2=>?_⟩
   rw [zac (Ne.symm ndp),zac (Ne.symm ndp)] at hpr;have hxd:x≠S.d:=zdd hx R.obj (by intro z;cases z)
   have D1:=zvf (dx:=S.dx) R.same R3 hv ht (by omega) ⟨_,R.obj⟩ hx (R.new _ (.inr (.inl rfl))) nx hpr hxd
   have eH:(upd (upd (upd (upd H3 S.d (.ins cd.cDesk S.dx (putF "text" (V.ref x) (deskF S.a (S.L.pl .case) S.pr)))) S.d (.ins cd.cDesk S.dx (putF "case" (V.ref (L'.pl .case)) (putF "text" (V.ref x) (deskF S.a (S.L.pl .case) S.pr))))) pr (.dK [])) S.d (.ins cd.cDesk S.dx (putF "proofs" (V.ref pr) (putF "case" (V.ref (L'.pl .case)) (putF "text" (V.ref x) (deskF S.a (S.L.pl .case) S.pr))))))=upd (upd H3 pr (.dK [])) S.d (.ins cd.cDesk S.dx (deskF x (L'.pl .case) pr)):=by
    funext q
    by_cases z1:q=S.d
    ·rw [z1,zaa,zaa];rfl
    ·rw [zac z1,zac z1];by_cases z2:q=pr
     ·rw [z2,zaa,zaa]
     ·rw [zac z2,zac z2,zac z1,zac z1]
   rw [eH] at hr2 ⊢;exact k _ ⟨S.d,S.dx,x,L',pr,[],fun _=>0,fun _=>0,fun _=>[],d⟩ r2 rfl rfl (D1.sameR (Same.new hr2)) zaa (D1.same.free hr2)
  ·rw [zxp hl he] at k;have R4:=R.sameR S3;walk_at "rd2"
   refine ⟨_,lenL h3,?_⟩;rw [if_pos (by show (0:Int)<((2:Nat):Int);decide)]
   refine ⟨by decide,fun l1 hl1=>⟨_,zaa,_,by rw [zac (zag h3 hl1)];exact h3,by show 1+2≤sizeLine;decide,fun r2 hr2=>?_⟩⟩
   have R5:=R4.sameR (Same.new (o:=.lst [V.int (-6)]) hl1);exact k _ S r2 rfl rfl (R5.sameR (Same.new hr2)) zaa (R5.same.free hr2)
def zs6 (cd:Cds):Sp:=fun vs H Q _=>∃ (H0:Hp) (S:Dk) (x:Addr) (t:Bytes),vs=[.ref S.d,.ref x]∧DeskRep cd H0 H S∧H x=some (.lst (bytV t))∧t.length≤2000000∧takeQ cd H0 S (caseText S.c++t) Q
abbrev zej:Stmt:=inClass (top 84) 2
theorem zqy:FnScope ["self","text"] ["self","text"] (defScope zej):=⟨rfl,rfl,rfl,by decide +kernel,rfl,by decide +kernel,by decide +kernel⟩
theorem zss:BindOk "more" "Desk.more" zej ["self","text"]:=fun _ _ _ _ _ _=>ls2 fun _ _=>rfl
theorem ok_more (D:MethAt K cd.cDesk "more" "Desk.more" zej)(T:TxtR mg)(CD:ClsDesk K cd.cDesk)(c_Desk:Cls K cd.cDesk)(O_Desk_take:OwnM P w K mg base cd.cDesk "take" 6 ["self","text"] (zoj cd)):
  OwnM P w K mg base cd.cDesk "more" 7 ["self","text"] (zs6 cd):=by
 refine zek D zqy zss (fun vs H Q E h=>?_) (fun f cdv A outer s H vs Q E hr h=>?_)
 ·obtain ⟨H0,S,x,t,rfl,_⟩:=h;rfl
 ·obtain ⟨H0,S,x,t,rfl,R,hx,hl,k⟩:=h;have htl:=R.tlen;refine ⟨_,(zae (zak (zcl O_Desk_take c_Desk (hr.mono (by decide)) (pv 0) (zab (zc6 zre (zah (pv 0) rfl) (pv 1)) zaf)))),?_⟩
  walk_at "rd2"
  refine ⟨_,_,R.obj,by rfl,fget R.obj CD.cl CD.n1 (zpu ..) ⟨_,rfl,_,R.inn.text,_,hx,?_,fun y hy=>?_⟩⟩
  ·rw [zgf,zgf,sizeLine_eq];omega
  ·have e:bytV (caseText S.c)++bytV t=bytV (caseText S.c++t):=by
    unfold bytV;rw [List.map_append]
   rw [e];exact ⟨H0,S,y,caseText S.c++t,rfl,R.sameR (Same.new hy),zaa,R.same.free hy,k⟩
end
end
section
open RgCase
open Wqatcy (Call)
def run (s:Wqatcy.State)(xs:List Call):Wqatcy.State:=xs.foldl (fun s x=>(Wqatcy.step s x).1) s
theorem run_snoc (s:Wqatcy.State)(xs:List Call)(x:Call):run s (xs++[x])=(Wqatcy.step (run s xs) x).1:=by
 unfold run;rw [List.foldl_append];rfl
theorem zhk:∀ (xs:List Call) (s:Wqatcy.State) (x:Call),playX s (xs++[x])=playX s xs++[ansI (Wqatcy.step (run s xs) x).2]
 | [],s,x=>rfl
 | y::r,s,x=>by
  show ansI (Wqatcy.step s y).2::playX (Wqatcy.step s y).1 (r++[x])=ansI (Wqatcy.step s y).2::playX (Wqatcy.step s y).1 r++[_];rw [zhk r];rfl
theorem zld (l:List (List Int))(a:List Int):PyFlat.told (l++[a])=PyFlat.told l++((a.length:Int)::a):=by
 unfold PyFlat.told;rw [List.flatMap_append];simp
theorem zr3 (xs:List Call)(x:Call):flat (xs++[x])=flat xs++flat1 x:=by
 unfold flat;rw [List.flatMap_append];simp
theorem zt8 (xs ys:List Call):flat (xs++ys)=flat xs++flat ys:=by
 unfold flat;rw [List.flatMap_append]
theorem flat1_pos (x:Call):1≤(flat1 x).length:=by cases x <;> simp [flat1]
theorem zlf (c:Case)(t:Bytes):(Wqatcy.taken c t).1=c∨((Wqatcy.taken c t).1=(Wqatcy.taken c t).1∧caseText (Wqatcy.taken c t).1=t∧Valid (Wqatcy.taken c t).1):=by
 unfold Wqatcy.taken;by_cases h:Wqatcy.LONGEST<t.length
 ·rw [if_pos h];exact .inl rfl
 ·rw [if_neg h];cases e:readCase t with
  | error x=>exact .inl rfl
  | ok d=>
   obtain ⟨h1,h2⟩:=zik e;exact .inr ⟨rfl,h1,h2⟩
theorem zxq (c:Case)(x:Call):(caseText (Wqatcy.step c x).1).length≤(caseText c).length+(flat1 x).length:=by
 cases x with
 | take t=>
  show (caseText (Wqatcy.taken c t).1).length≤_;rcases zlf c t with h | ⟨_,h,_⟩
  ·rw [h];omega
  ·rw [h];simp [flat1];omega
 | more t=>
  show (caseText (Wqatcy.taken c (caseText c++t)).1).length≤_;rcases zlf c (caseText c++t) with h | ⟨_,h,_⟩
  ·rw [h];omega
  ·rw [h,List.length_append];simp [flat1];omega
 | _=>exact Nat.le_add_right _ _
theorem nums_len (a:Wqatcy.Ans):(ansI a).length=a.nums.length+1:=by unfold ansI;simp
theorem going_len (c:RgCase.Case)(vs:Array RgCase.Value)(n:RgCase.Name):(goingBy c vs n).length≤c.length:=by
 unfold goingBy;simp only;refine Nat.le_trans (List.length_filterMap_le _ _) ?_;rw [List.length_zipIdx];exact Nat.le_refl _
theorem zxe {c:Case}(v:Valid c):∀ n∈witnesses c,n.length≤12:=by
 intro n hn;have h1:=za4.mp hn;unfold named at h1;obtain ⟨l,hl,e⟩:=List.mem_filterMap.mp h1;have hok:=zn6 v l hl;have key:∀ b:Name,nameOk b=true→b.length≤12:=fun b h=>(znr.mp h).2.1;cases l with
 | weight a k=>
  have:a=n:=by simpa using e
  subst this;simp only [Line.ok,Bool.and_eq_true] at hok;exact key _ hok.1
 | word s a m=>
  have:a=n:=by simpa using e
  subst this;simp only [Line.ok,Bool.and_eq_true] at hok;exact key _ hok.1
 | _=>simp at e
theorem zqn (c:Case)(t:Bytes):(Wqatcy.taken c t).2.nums.length≤2:=by
 unfold Wqatcy.taken;by_cases h:Wqatcy.LONGEST<t.length
 ·rw [if_pos h];simp [Wqatcy.MUCH,Wqatcy.says]
 ·rw [if_neg h];cases readCase t with
  | error x=>simp [Wqatcy.faultAt]
  | ok d=>simp [Wqatcy.says]
theorem ans_len {c:Case}(v:Valid c)(x:Call):(ansI (Wqatcy.step c x).2).length≤(caseText c).length+900:=by
 rw [nums_len];obtain ⟨vb1,_,_⟩:=zbe v;cases x with
 | take t=>
  have:=zqn c t;show (Wqatcy.taken c t).2.nums.length+1≤_;omega
 | more t=>
  have:=zqn c (caseText c++t);show (Wqatcy.taken c (caseText c++t)).2.nums.length+1≤_;omega
 | text=>
  show ((caseText c).map _).length+1≤_;rw [List.length_map];omega
 | sizes=>show 3+1≤_;omega
 | claim i w=>
  show (Wqatcy.told c (.claim i w)).nums.length+1≤_;simp only [Wqatcy.told];split
  ·simp [Wqatcy.WRONG,Wqatcy.says]
  ·split
   ·simp [Wqatcy.tells]
   ·simp [Wqatcy.NO,Wqatcy.says]
 | rules i w=>
  show (Wqatcy.told c (.rules i w)).nums.length+1≤_;simp only [Wqatcy.told];split
  ·simp [Wqatcy.WRONG,Wqatcy.says]
  ·split
   ·have:=going_len c (settledOf (knownOf c) w).1 ‹_›;simp only [Wqatcy.rowAns];omega
   ·simp [Wqatcy.NO,Wqatcy.says]
 | boat w b=>
  show (Wqatcy.told c (.boat w b)).nums.length+1≤_;simp only [Wqatcy.told];split
  ·simp [Wqatcy.WRONG,Wqatcy.says]
  ·simp [Wqatcy.tells]
 | witness k=>
  show (Wqatcy.told c (.witness k)).nums.length+1≤_;simp only [Wqatcy.told];split
  ·rename_i n hn
   have:=zxe v n (List.mem_of_getElem? hn);simp only [Wqatcy.shown,Wqatcy.rowAns,List.length_map];omega
  ·simp [Wqatcy.NO,Wqatcy.says]
 | turn i=>
  show (Wqatcy.told c (.turn i)).nums.length+1≤_;simp only [Wqatcy.told];split
  ·split
   ·simp
   ·simp [Wqatcy.NONE,Wqatcy.says]
  ·simp [Wqatcy.NO,Wqatcy.says]
end
section
open PySem PySem.Spec PyProof.Rows L2
open RgCase (Bytes ascii nameOk claimName cutAt Line Cond Name Case numbersIn caseText)
open Wqatcy (Call)
theorem SqL.mono {K:PySem.W.Frag}{H H':Hp}{a:Addr}{xs:List V}(h:SqL K H a xs)(s:Same H H'):SqL K H' a xs:=by
 rcases h with (h | ⟨o,h⟩) | h
 ·exact .inl (.inl (s _ _ h))
 ·exact .inl (.inr ⟨o,s _ _ h⟩)
 ·exact .inr h
def code:Call→Nat
 | .take _=>0
 | .more _=>1
 | .text=>2
 | .sizes=>3
 | .claim _ _=>4
 | .rules _ _=>5
 | .boat _ _=>6
 | .witness _=>7
 | .turn _=>8
theorem code_lt (x:Call):code x<9:=by cases x <;> simp [code]
theorem code_head (x:Call):∃ r,flat1 x=(code x:Int)::r:=by cases x <;> exact ⟨_,rfl⟩
theorem len1 {x:Call}(h:code x=2∨code x=3):(flat1 x).length=1:=by cases x <;> simp_all [code,flat1]
theorem len2 {x:Call}(h:code x=7∨code x=8):(flat1 x).length=2:=by cases x <;> simp_all [code,flat1]
theorem len3 {x:Call}(h:code x=4∨code x=5):(flat1 x).length=3:=by cases x <;> simp_all [code,flat1]
theorem zpx {a b:Nat}(h:∀ k:_root_.Fin 9,inV (.int (k.1:Nat)) [.int (a:Nat),.int (b:Nat)]=decide (k.1=a∨k.1=b))(x:Call):inV (.int (code x:Nat)) [.int (a:Nat),.int (b:Nat)]=decide (code x=a∨code x=b):=h ⟨code x,code_lt x⟩
section
variable {P:Program}{w:World}{K:PySem.W.Frag}{mg:Str→Option Value}{base:Heap}{ad:Ads}{cd:Cds}
theorem at_mid {pre f post:List Int}{i:Nat}{v:Int}(h:f[i]? = some v):((pre++f++post).map V.int)[pre.length+i]? = some (V.int v):=by
 rw [List.getElem?_map,List.append_assoc,List.getElem?_append_right (by omega)]
 have hi:=(List.getElem?_eq_some_iff.mp h).1;rw [show pre.length+i - pre.length=i by omega,List.getElem?_append_left hi,h]
 rfl
def ze7 (K:PySem.W.Frag):Sp:=fun vs H Q _=>∃ (a:Addr) (pre post:List Int) (x:Call),vs=[.ref a,.int (pre.length:Nat)]∧SqL K H a ((pre++flat1 x++post).map V.int)∧∀ H',Same H H'→Q (.int ((pre.length+(flat1 x).length:Nat):Int)) H'
abbrev zc2:Stmt:=top 85
theorem zhy:FnScope ["calls","start","call"] ["calls","start"] (defScope zc2):=⟨rfl,rfl,rfl,by decide +kernel,rfl,by decide +kernel,by decide +kernel⟩
theorem znc:BindOk "end_of_call" "end_of_call" zc2 ["calls","start"]:=fun _ _ _ _ _ _=>ls2 fun _ _=>rfl
theorem zmw (D:DefAt K mg "end_of_call" zc2)(T:TxtR mg):Own P w K mg base "end_of_call" 1 ["calls","start"] (ze7 K):=by
 refine za5 D zhy znc (fun vs H Q E h=>?_) (fun f cdv A outer s H vs Q E hr h=>?_)
 ·obtain ⟨a,pre,post,x,rfl,_⟩:=h;rfl
 ·obtain ⟨a,pre,post,x,rfl,hS,k⟩:=h;refine ⟨_,(zad (zat (i:=2) zhy.nd rfl (Or.inl rfl) (zbt zax (pv 0) (pv 1) (fun _ _=>rfl)))
   (zad (zav (zai zbl (pv 2) (zc7 (zab (zal T.g_TEXT) (zab (zal T.g_SIZES) zaf))) rfl) (zae (zak (zc6 zgh (pv 1) zan))) zam)
   (zad (zav (zai zbl (pv 2) (zc7 (zab (zal T.g_WITNESS) (zab (zal T.g_TURN) zaf))) rfl) (zae (zak (zc6 zgh (pv 1) zan))) zam)
   (zad (zav (zai zbl (pv 2) (zc7 (zab (zal T.g_CLAIM) (zab (zal T.g_RULES) zaf))) rfl) (zae (zak (zc6 zgh (pv 1) zan))) zam)
   (zad (zav (zai zbl (pv 2) (zc7 (zab (zal T.g_TAKE) (zab (zal T.g_MORE) zaf))) rfl) (zae (zak (zc6 zgh (zc6 zgh (pv 1) zan) (zbt zax (pv 0) (zc6 zgh (pv 1) zan) (fun _ _=>rfl))))) zam)
   (zad (zav (zai zcd (pv 2) (zal T.g_BOAT) (nomark _)) (zae (zak (zc6 zgh (zc6 zgh (pv 1) zan) (zbt zax (pv 0) (zc6 zgh (pv 1) zan) (fun _ _=>rfl))))) zam)
   (zae ps_never))))))),?_⟩
  obtain ⟨rest,hrest⟩:=code_head x;have h0:((pre++flat1 x++post).map V.int)[pre.length+0]? = some (V.int (code x:Nat)):=at_mid (by rw [hrest];rfl)
  walk_at "rd2"
  refine ⟨_,hS,_,zaj (j:=pre.length) h0,by decide,fun t1 n1=>⟨_,.inr (SqT.of zaa),rfl,rfl,?_⟩⟩
  have S1:Same H (upd H t1 (.tup [V.int 2,V.int 3])):=Same.new n1;generalize upd H t1 (.tup [V.int 2,V.int 3])=H1 at S1
  rw [if_neg Bool.false_ne_true,show inV (V.int (code x:Nat)) [V.int 2,V.int 3]=decide (code x=2∨code x=3) from zpx (a:=2) (b:=3) (by decide +kernel) x]
  by_cases c1:code x=2∨code x=3
  ·rw [if_pos (decide_eq_true c1)];have e:((pre.length:Nat):Int)+1=((pre.length+(flat1 x).length:Nat):Int):=by
    have:=len1 c1;omega
   rw [e];exact k _ S1
  rw [if_neg (by rw [decide_eq_false c1];exact Bool.false_ne_true)]
  refine ⟨by decide,fun t2 n2=>⟨_,.inr (SqT.of zaa),rfl,rfl,?_⟩⟩
  have S2:Same H (upd H1 t2 (.tup [V.int 7,V.int 8])):=S1.trans (Same.new n2);generalize upd H1 t2 (.tup [V.int 7,V.int 8])=H2 at S2
  rw [if_neg Bool.false_ne_true,show inV (V.int (code x:Nat)) [V.int 7,V.int 8]=decide (code x=7∨code x=8) from zpx (a:=7) (b:=8) (by decide +kernel) x]
  by_cases c2:code x=7∨code x=8
  ·rw [if_pos (decide_eq_true c2)];have e:((pre.length:Nat):Int)+2=((pre.length+(flat1 x).length:Nat):Int):=by
    have:=len2 c2;omega
   rw [e];exact k _ S2
  rw [if_neg (by rw [decide_eq_false c2];exact Bool.false_ne_true)]
  refine ⟨by decide,fun t3 n3=>⟨_,.inr (SqT.of zaa),rfl,rfl,?_⟩⟩
  have S3:Same H (upd H2 t3 (.tup [V.int 4,V.int 5])):=S2.trans (Same.new n3);generalize upd H2 t3 (.tup [V.int 4,V.int 5])=H3 at S3
  rw [if_neg Bool.false_ne_true,show inV (V.int (code x:Nat)) [V.int 4,V.int 5]=decide (code x=4∨code x=5) from zpx (a:=4) (b:=5) (by decide +kernel) x]
  by_cases c3:code x=4∨code x=5
  ·rw [if_pos (decide_eq_true c3)];have e:((pre.length:Nat):Int)+3=((pre.length+(flat1 x).length:Nat):Int):=by
    have:=len3 c3;omega
   rw [e];exact k _ S3
  rw [if_neg (by rw [decide_eq_false c3];exact Bool.false_ne_true)]
  refine ⟨by decide,fun t4 n4=>⟨_,.inr (SqT.of zaa),rfl,rfl,?_⟩⟩
  have S4:Same H (upd H3 t4 (.tup [V.int 0,V.int 1])):=S3.trans (Same.new n4);generalize upd H3 t4 (.tup [V.int 0,V.int 1])=H4 at S4
  rw [if_neg Bool.false_ne_true,show inV (V.int (code x:Nat)) [V.int 0,V.int 1]=decide (code x=0∨code x=1) from zpx (a:=0) (b:=1) (by decide +kernel) x]
  by_cases c4:code x=0∨code x=1
  ·rw [if_pos (decide_eq_true c4)];obtain ⟨n,hn,hl⟩:∃ n:Nat,(flat1 x)[1]? = some (n:Int)∧(flat1 x).length=2+n:=by
    cases x with
    | take t=>exact ⟨t.length,rfl,by simp [flat1];omega⟩
    | more t=>exact ⟨t.length,rfl,by simp [flat1];omega⟩
    | _=>simp [code] at c4
   refine ⟨_,SqL.mono hS S4,V.int (n:Nat),zaj (j:=pre.length+1) (at_mid hn),_,rfl,?_⟩;have e:((pre.length:Nat):Int)+2+(n:Int)=((pre.length+(flat1 x).length:Nat):Int):=by omega
   rw [e];exact k _ S4
  rw [if_neg (by rw [decide_eq_false c4];exact Bool.false_ne_true)]
  have h9:=code_lt x;have c6:code x=6:=by omega
  rw [if_pos (by rw [c6];rfl)]
  obtain ⟨n,hn,hl⟩:∃ n:Nat,(flat1 x)[2]? = some (n:Int)∧(flat1 x).length=3+n:=by
   cases x with
   | boat o b=>exact ⟨b.length,rfl,by simp [flat1];omega⟩
   | _=>simp [code] at c6
  refine ⟨rfl,_,SqL.mono hS S4,V.int (n:Nat),zaj (j:=pre.length+2) (at_mid hn),_,rfl,?_⟩;have e:((pre.length:Nat):Int)+3+(n:Int)=((pre.length+(flat1 x).length:Nat):Int):=by omega
  rw [e];exact k _ S4
def stepQ (cd:Cds)(H0:Hp)(S:Dk)(x:Call)(Q:VK):Prop:=∀ H' S' r,S'.d=S.d→S'.c=(Wqatcy.step S.c x).1→DeskRep cd H0 H' S'→H' r=some (.lst (ansV (Wqatcy.step S.c x).2))→H0 r=none→Q (.ref r) H'
def zgt (cd:Cds):Sp:=fun vs H Q _=>∃ (H0:Hp) (S:Dk) (y:Addr) (x:Call),vs=[.ref S.d,.ref y]∧DeskRep cd H0 H S∧H y=some (.lst ((flat1 x).map V.int))∧(flat1 x).length≤2000000∧stepQ cd H0 S x Q
theorem stepQ.tell {H0:Hp}{S:Dk}{x:Call}{Q:VK}(h:stepQ cd H0 S x Q)(e:Wqatcy.step S.c x=(S.c,Wqatcy.told S.c x)):tellQ cd H0 S x Q:=by
 intro H' ks g lg tg r R hr nr;refine h H' (S.with ks g lg tg) r rfl ?_ R ?_ nr
 ·rw [e];rfl
 ·rw [e];exact hr
theorem zjs (t:Bytes):(t.map fun c=>(c.toNat:Int)).map V.int=bytV t:=by
 unfold bytV;rw [List.map_map];rfl
abbrev zeh:Stmt:=top 86
theorem zqx:FnScope ["desk","call"] ["desk","call"] (defScope zeh):=⟨rfl,rfl,rfl,by decide +kernel,rfl,by decide +kernel,by decide +kernel⟩
theorem zsq:BindOk "answer_of" "answer_of" zeh ["desk","call"]:=fun _ _ _ _ _ _=>ls2 fun _ _=>rfl
theorem zro (D:DefAt K mg "answer_of" zeh)(T:TxtR mg)(c_Desk:Cls K cd.cDesk)(O_Desk_take:OwnM P w K mg base cd.cDesk "take" 6 ["self","text"] (zoj cd))(O_Desk_more:OwnM P w K mg base cd.cDesk "more" 7 ["self","text"] (zs6 cd))(O_Desk_tell_text:OwnM P w K mg base cd.cDesk "tell_text" 1 ["self"] (zgo cd))(O_Desk_tell_sizes:OwnM P w K mg base cd.cDesk "tell_sizes" 1 ["self"] (zfo cd))(O_Desk_tell_claim:OwnM P w K mg base cd.cDesk "tell_claim" 7 ["self","number","without"] (zfq cd))(O_Desk_tell_rules:OwnM P w K mg base cd.cDesk "tell_rules" 7 ["self","number","without"] (zfp cd))(O_Desk_tell_boat:OwnM P w K mg base cd.cDesk "tell_boat" 7 ["self","without","name"] (zgp cd))(O_Desk_tell_witness:OwnM P w K mg base cd.cDesk "tell_witness" 1 ["self","number"] (zd7 cd))(O_Desk_tell_turn:OwnM P w K mg base cd.cDesk "tell_turn" 7 ["self","number"] (zgn cd)):Own P w K mg base "answer_of" 8 ["desk","call"] (zgt cd):=by
 refine za5 D zqx zsq (fun vs H Q E h=>?_) (fun f cdv A outer s H vs Q E hr h=>?_)
 ·obtain ⟨H0,S,y,x,rfl,_⟩:=h;rfl
 ·obtain ⟨H0,S,y,x,rfl,R,hy,hl,k⟩:=h;refine ⟨_,(zad (zav (zai zcd (zbt zax (pv 1) zan (fun _ _=>rfl)) (zal T.g_TAKE) (nomark _)) (zae (zak (zcl O_Desk_take c_Desk (hr.mono (by decide)) (pv 0) (zab (ziq zli (pv 1) (zjj zan) zou) zaf)))) zam)
   (zad (zav (zai zcd (zbt zax (pv 1) zan (fun _ _=>rfl)) (zal T.g_MORE) (nomark _)) (zae (zak (zcl O_Desk_more c_Desk (hr.mono (by decide)) (pv 0) (zab (ziq zli (pv 1) (zjj zan) zou) zaf)))) zam)
   (zad (zav (zai zcd (zbt zax (pv 1) zan (fun _ _=>rfl)) (zal T.g_TEXT) (nomark _)) (zae (zak (zu1 O_Desk_tell_text c_Desk (hr.mono (by decide)) (pv 0)))) zam)
   (zad (zav (zai zcd (zbt zax (pv 1) zan (fun _ _=>rfl)) (zal T.g_SIZES) (nomark _)) (zae (zak (zu1 O_Desk_tell_sizes c_Desk (hr.mono (by decide)) (pv 0)))) zam)
   (zad (zav (zai zcd (zbt zax (pv 1) zan (fun _ _=>rfl)) (zal T.g_CLAIM) (nomark _)) (zae (zak (zcl O_Desk_tell_claim c_Desk (hr.mono (by decide)) (pv 0) (zab (zbt zax (pv 1) zan (fun _ _=>rfl)) (zab (zbt zax (pv 1) zan (fun _ _=>rfl)) zaf))))) zam)
   (zad (zav (zai zcd (zbt zax (pv 1) zan (fun _ _=>rfl)) (zal T.g_RULES) (nomark _)) (zae (zak (zcl O_Desk_tell_rules c_Desk (hr.mono (by decide)) (pv 0) (zab (zbt zax (pv 1) zan (fun _ _=>rfl)) (zab (zbt zax (pv 1) zan (fun _ _=>rfl)) zaf))))) zam)
   (zad (zav (zai zcd (zbt zax (pv 1) zan (fun _ _=>rfl)) (zal T.g_BOAT) (nomark _)) (zae (zak (zcl O_Desk_tell_boat c_Desk (hr.mono (by decide)) (pv 0) (zab (zbt zax (pv 1) zan (fun _ _=>rfl)) (zab (ziq zli (pv 1) (zjj zan) zou) zaf))))) zam)
   (zad (zav (zai zcd (zbt zax (pv 1) zan (fun _ _=>rfl)) (zal T.g_WITNESS) (nomark _)) (zae (zak (zcl O_Desk_tell_witness c_Desk (hr.mono (by decide)) (pv 0) (zab (zbt zax (pv 1) zan (fun _ _=>rfl)) zaf)))) zam)
   (zae (zak (zcl O_Desk_tell_turn c_Desk (hr.mono (by decide)) (pv 0) (zab (zbt zax (pv 1) zan (fun _ _=>rfl)) zaf)))))))))))),?_⟩
  walk_at "rd2"
  cases x with
  | take t=>
   refine ⟨_,SqL.of hy,_,zaj (j:=0) rfl,rfl,?_⟩;rw [if_pos rfl];refine ⟨_,_,R.obj,by rfl,_,SqL.of hy,fun z hz=>?_⟩
   rw [show ((2:Int))=((2:Nat):Int) from rfl,zk8,show ((flat1 (.take t)).map V.int).drop 2=bytV t from zjs t]
   exact ⟨H0,S,z,t,rfl,R.sameR (Same.new hz),zaa,R.same.free hz,k⟩
  | more t=>
   refine ⟨_,SqL.of hy,_,zaj (j:=0) rfl,rfl,?_⟩;rw [if_neg (by intro z;cases z)]
   refine ⟨_,SqL.of hy,_,zaj (j:=0) rfl,rfl,?_⟩;rw [if_pos rfl];refine ⟨_,_,R.obj,by rfl,_,SqL.of hy,fun z hz=>?_⟩
   rw [show ((2:Int))=((2:Nat):Int) from rfl,zk8,show ((flat1 (.more t)).map V.int).drop 2=bytV t from zjs t]
   have ht:t.length≤2000000:=by
    have:(flat1 (.more t)).length=t.length+2:=by simp [flat1]
    omega
   exact ⟨H0,S,z,t,rfl,R.sameR (Same.new hz),zaa,ht,k⟩
  | text=>
   refine ⟨_,SqL.of hy,_,zaj (j:=0) rfl,rfl,?_⟩;rw [if_neg (by intro z;cases z)]
   refine ⟨_,SqL.of hy,_,zaj (j:=0) rfl,rfl,?_⟩;rw [if_neg (by intro z;cases z)]
   refine ⟨_,SqL.of hy,_,zaj (j:=0) rfl,rfl,?_⟩;rw [if_pos rfl];exact ⟨_,_,R.obj,by rfl,H0,S,rfl,R,k.tell rfl⟩
  | sizes=>
   refine ⟨_,SqL.of hy,_,zaj (j:=0) rfl,rfl,?_⟩;rw [if_neg (by intro z;cases z)]
   refine ⟨_,SqL.of hy,_,zaj (j:=0) rfl,rfl,?_⟩;rw [if_neg (by intro z;cases z)]
   refine ⟨_,SqL.of hy,_,zaj (j:=0) rfl,rfl,?_⟩;rw [if_neg (by intro z;cases z)]
   refine ⟨_,SqL.of hy,_,zaj (j:=0) rfl,rfl,?_⟩;rw [if_pos rfl];exact ⟨_,_,R.obj,by rfl,H0,S,rfl,R,k.tell rfl⟩
  | claim i o=>
   refine ⟨_,SqL.of hy,_,zaj (j:=0) rfl,rfl,?_⟩;rw [if_neg (by intro z;cases z)]
   refine ⟨_,SqL.of hy,_,zaj (j:=0) rfl,rfl,?_⟩;rw [if_neg (by intro z;cases z)]
   refine ⟨_,SqL.of hy,_,zaj (j:=0) rfl,rfl,?_⟩;rw [if_neg (by intro z;cases z)]
   refine ⟨_,SqL.of hy,_,zaj (j:=0) rfl,rfl,?_⟩;rw [if_neg (by intro z;cases z)]
   refine ⟨_,SqL.of hy,_,zaj (j:=0) rfl,rfl,?_⟩;rw [if_pos rfl];exact ⟨_,_,R.obj,by rfl,_,SqL.of hy,_,zaj (j:=1) rfl,_,SqL.of hy,_,zaj (j:=2) rfl,H0,S,i,o,rfl,R,k.tell rfl⟩
  | rules i o=>
   refine ⟨_,SqL.of hy,_,zaj (j:=0) rfl,rfl,?_⟩;rw [if_neg (by intro z;cases z)]
   refine ⟨_,SqL.of hy,_,zaj (j:=0) rfl,rfl,?_⟩;rw [if_neg (by intro z;cases z)]
   refine ⟨_,SqL.of hy,_,zaj (j:=0) rfl,rfl,?_⟩;rw [if_neg (by intro z;cases z)]
   refine ⟨_,SqL.of hy,_,zaj (j:=0) rfl,rfl,?_⟩;rw [if_neg (by intro z;cases z)]
   refine ⟨_,SqL.of hy,_,zaj (j:=0) rfl,rfl,?_⟩;rw [if_neg (by intro z;cases z)]
   refine ⟨_,SqL.of hy,_,zaj (j:=0) rfl,rfl,?_⟩;rw [if_pos rfl];exact ⟨_,_,R.obj,by rfl,_,SqL.of hy,_,zaj (j:=1) rfl,_,SqL.of hy,_,zaj (j:=2) rfl,H0,S,i,o,rfl,R,k.tell rfl⟩
  | boat o b=>
   refine ⟨_,SqL.of hy,_,zaj (j:=0) rfl,rfl,?_⟩;rw [if_neg (by intro z;cases z)]
   refine ⟨_,SqL.of hy,_,zaj (j:=0) rfl,rfl,?_⟩;rw [if_neg (by intro z;cases z)]
   refine ⟨_,SqL.of hy,_,zaj (j:=0) rfl,rfl,?_⟩;rw [if_neg (by intro z;cases z)]
   refine ⟨_,SqL.of hy,_,zaj (j:=0) rfl,rfl,?_⟩;rw [if_neg (by intro z;cases z)]
   refine ⟨_,SqL.of hy,_,zaj (j:=0) rfl,rfl,?_⟩;rw [if_neg (by intro z;cases z)]
   refine ⟨_,SqL.of hy,_,zaj (j:=0) rfl,rfl,?_⟩;rw [if_neg (by intro z;cases z)]
   refine ⟨_,SqL.of hy,_,zaj (j:=0) rfl,rfl,?_⟩;rw [if_pos rfl];refine ⟨_,_,R.obj,by rfl,_,SqL.of hy,_,zaj (j:=1) rfl,_,SqL.of hy,fun z hz=>?_⟩
   rw [show ((3:Int))=((3:Nat):Int) from rfl,zk8,show ((flat1 (.boat o b)).map V.int).drop 3=bytV b from zjs b]
   have ht:b.length≤2000000:=by
    have:(flat1 (.boat o b)).length=b.length+3:=by simp [flat1]
    omega
   exact ⟨H0,S,o,z,b,rfl,R.sameR (Same.new hz),zaa,ht,k.tell rfl⟩
  | witness i=>
   refine ⟨_,SqL.of hy,_,zaj (j:=0) rfl,rfl,?_⟩;rw [if_neg (by intro z;cases z)]
   refine ⟨_,SqL.of hy,_,zaj (j:=0) rfl,rfl,?_⟩;rw [if_neg (by intro z;cases z)]
   refine ⟨_,SqL.of hy,_,zaj (j:=0) rfl,rfl,?_⟩;rw [if_neg (by intro z;cases z)]
   refine ⟨_,SqL.of hy,_,zaj (j:=0) rfl,rfl,?_⟩;rw [if_neg (by intro z;cases z)]
   refine ⟨_,SqL.of hy,_,zaj (j:=0) rfl,rfl,?_⟩;rw [if_neg (by intro z;cases z)]
   refine ⟨_,SqL.of hy,_,zaj (j:=0) rfl,rfl,?_⟩;rw [if_neg (by intro z;cases z)]
   refine ⟨_,SqL.of hy,_,zaj (j:=0) rfl,rfl,?_⟩;rw [if_neg (by intro z;cases z)]
   refine ⟨_,SqL.of hy,_,zaj (j:=0) rfl,rfl,?_⟩;rw [if_pos rfl];exact ⟨_,_,R.obj,by rfl,_,SqL.of hy,_,zaj (j:=1) rfl,H0,S,i,rfl,R,k.tell rfl⟩
  | turn i=>
   refine ⟨_,SqL.of hy,_,zaj (j:=0) rfl,rfl,?_⟩;rw [if_neg (by intro z;cases z)]
   refine ⟨_,SqL.of hy,_,zaj (j:=0) rfl,rfl,?_⟩;rw [if_neg (by intro z;cases z)]
   refine ⟨_,SqL.of hy,_,zaj (j:=0) rfl,rfl,?_⟩;rw [if_neg (by intro z;cases z)]
   refine ⟨_,SqL.of hy,_,zaj (j:=0) rfl,rfl,?_⟩;rw [if_neg (by intro z;cases z)]
   refine ⟨_,SqL.of hy,_,zaj (j:=0) rfl,rfl,?_⟩;rw [if_neg (by intro z;cases z)]
   refine ⟨_,SqL.of hy,_,zaj (j:=0) rfl,rfl,?_⟩;rw [if_neg (by intro z;cases z)]
   refine ⟨_,SqL.of hy,_,zaj (j:=0) rfl,rfl,?_⟩;rw [if_neg (by intro z;cases z)]
   refine ⟨_,SqL.of hy,_,zaj (j:=0) rfl,rfl,?_⟩;rw [if_neg (by intro z;cases z)]
   exact ⟨_,_,R.obj,by rfl,_,SqL.of hy,_,zaj (j:=1) rfl,H0,S,i,rfl,R,k.tell rfl⟩
end
end
section
open PySem PySem.Spec PyProof.Rows L2
open RgCase (Bytes ascii nameOk claimName cutAt Line Cond Name Case numbersIn caseText)
open Wqatcy (Call)
section
variable {P:Program}{w:World}{K:PySem.W.Frag}{mg:Str→Option Value}{base:Heap}{ad:Ads}{cd:Cds}
theorem DeskRep.side {H0 H H':Hp}{S:Dk}{p:Addr}{o:HO}(R:DeskRep cd H0 H S)(hp:H p=none)(hs:Same H H')(ho:H' p=some o):DeskRep cd (upd H0 p o) H' S:=by
 have R1:=R.sameR hs;refine ⟨R1.obj,R1.inn,R1.val,R1.memo,R1.nd,R1.small,R1.npr,fun q hq=>?_,fun q u e=>?_,R1.tlen⟩
 ·obtain ⟨u,hu⟩:=R.there q hq;rw [zac (zag hu hp)];exact R.new q hq
 ·by_cases z:q=p
  ·subst z;rw [zaa] at e;cases e;exact ho
  ·rw [zac z] at e;exact R1.same _ _ e
theorem cut_mid (pre f post:List Int):cutV ((pre++f++post).map V.int) (some ((pre.length:Nat):Int)) (some ((pre.length+f.length:Nat):Int))=f.map V.int:=by
 unfold cutV;rw [HT.ztd,HT.ztd,List.length_map];have h1:min pre.length (pre++f++post).length=pre.length:=by simp only [List.length_append];omega
 have h2:min (pre.length+f.length) (pre++f++post).length=pre.length+f.length:=by simp only [List.length_append];omega
 rw [h1,h2,List.map_append,List.map_append,List.append_assoc,List.drop_left' (by rw [List.length_map]),show pre.length+f.length - pre.length=f.length by omega,List.take_left' (by rw [List.length_map])]
def awP (cd:Cds)(Hb:Hp)(l:List Int)(xs:List Call)(a d tl:Addr)(σ:L2.St)(H':Hp):Prop:=∃ (dn rest:List Call) (H0:Hp) (S:Dk) (v4 v5:Option V),xs=dn++rest∧σ=[some (.ref a),some (.ref d),some (.ref tl),some (.int ((flat dn).length:Nat)),v4,v5]∧S.d=d∧
 DeskRep cd H0 H' S∧S.c=run [] dn∧H0 tl=some (.lst ((PyFlat.told (playX [] dn)).map V.int))∧Same Hb H0∧(caseText S.c).length≤(flat dn).length∧(PyFlat.told (playX [] dn)).length≤dn.length*(l.length+1000)
def zhj (K:PySem.W.Frag):Sp:=fun vs H Q _=>∃ (a:Addr) (l:List Int),vs=[.ref a]∧SqL K H a (l.map V.int)∧PyWqatcy.answers_asked l=true∧∀ H' r,H' r=some (.lst ((PyWqatcy.answers l).map V.int))→Q (.ref r) H'
abbrev zeg:Stmt:=top 87
theorem zdb:FnScope ["calls","desk","told","start","end","answer"] ["calls"] (defScope zeg):=⟨rfl,rfl,rfl,by decide +kernel,rfl,by decide +kernel,by decide +kernel⟩
theorem zwx {f:Addr}{fd:FuncData}(F:Fun K "answers" "answers" zeg f fd)(T:TxtR mg)(O_Desk:OwnC P w K mg base "Desk" cd.cDesk 3 ["self"] (zgw cd))(O_end_of_call:Own P w K mg base "end_of_call" 1 ["calls","start"] (ze7 K))(O_answer_of:Own P w K mg base "answer_of" 8 ["desk","call"] (zgt cd)):FnOk P w K mg base CX0 9 f fd ["calls"] (zhj K):=by
 refine F.ok zdb (fun vs H Q E h=>?_) (fun cdv A outer s H vs Q E hr h=>?_)
 ·obtain ⟨a,l,rfl,_⟩:=h;rfl
 ·obtain ⟨a,l,rfl,hS,hask,k⟩:=h;obtain ⟨xs,hl,_,hx1,hx2,hx3,hans⟩:=request hask;have hll:l.length≤2000000:=by
   have:1*(l.length+1000)≤xs.length*(l.length+1000):=Nat.mul_le_mul_right _ hx1;omega
  refine ⟨_,(zad (zat (i:=1) zdb.nd rfl (Or.inl rfl) (zf2 O_Desk (hr.mono (by decide))))
   (zad (zat (i:=2) zdb.nd rfl (Or.inl rfl) (zbd zaf))
   (zad (zat (i:=3) zdb.nd rfl (Or.inl rfl) zan)
   (zad (zuw PassesOwn.never (zai op_lt (pv 3) (zao zap (by rfl) T.b_len PySem.boot_len (zab (pv 0) zaf)) (nomark _)) (zad (zat (i:=4) zdb.nd rfl (Or.inl rfl) (zar O_end_of_call (hr.mono (by decide)) (zab (pv 0) (zab (pv 3) zaf))))
   (zad (zat (i:=5) zdb.nd rfl (Or.inl rfl) (zar O_answer_of (hr.mono (by decide)) (zab (pv 1) (zab (ziq zli (pv 0) (zjj (pv 3)) (zjj (pv 4))) zaf))))
   (zad (zcr (zox PySem.F.plainAttrs_list PySem.F.slot_list_append PySem.F.type_list_append zdu (pv 2) (zab (zao zap (by rfl) T.b_len PySem.boot_len (zab (pv 5) zaf)) zaf)))
   (zad (zcr (zox PySem.F.plainAttrs_list PySem.F.slot_list_extend PySem.F.type_list_extend mt_extend (pv 2) (zab (pv 5) zaf)))
   (zae (zat (i:=3) zdb.nd rfl (Or.inl rfl) (pv 4))))))))
   (zae (zak (pv 2))))))),?_⟩
  refine zaq (fun σ' H'=>∃ S,σ'=[some (.ref a),some (.ref S.d),none,none,none,none]∧S.c=[]∧DeskRep cd H H' S) ?_ ?_
  ·intro RR hRR;walk_at "rd2"
   intro y dy ny ndy ndyy;refine ⟨H,y,dy,rfl,zaa,ny,fun q o e=>by rw [zac (zag e ny),zac (zag e ndy)];exact e,fun H1 S hd hc R=>⟨rfl,hRR _ _ ⟨S,by rw [hd],hc,R⟩⟩⟩
  rintro σ1 H1 ⟨S,rfl,hc,R⟩;refine zaq (fun σ' H'=>∃ tl,σ'=[some (.ref a),some (.ref S.d),some (.ref tl),none,none,none]∧DeskRep cd (upd H tl (.lst [])) H' S∧H tl=none) ?_ ?_
  ·intro RR hRR;walk_at "rd2"
   exact ⟨Nat.zero_le _,fun tl htl=>hRR _ _ ⟨tl,rfl,R.side htl (Same.new htl) zaa,R.same.free htl⟩⟩
  rintro σ2 H2 ⟨tl,rfl,R2,ntl⟩;refine zaq (fun σ' H'=>σ'=[some (.ref a),some (.ref S.d),some (.ref tl),some (.int 0),none,none]∧H'=H2) (fun RR hRR=>hRR _ _ ⟨rfl,rfl⟩) ?_;rintro σ3 H3 ⟨rfl,rfl⟩;refine zaq (fun σ' H'=>∃ v4 v5,σ'=[some (.ref a),some (.ref S.d),some (.ref tl),some (.int (l.length:Nat)),v4,v5]∧H' tl=some (.lst ((PyWqatcy.answers l).map V.int))) ?_ ?_
  ·intro RR hRR;refine zuk (awP cd H l xs a S.d tl) (fun σ' _=>match σ' with | [_,_,_,some (.int i),_,_]=>l.length - i.toNat | _=>0) ⟨[],xs,_,S,none,none,rfl,rfl,rfl,R2,hc,zaa,Same.new ntl,?_,?_⟩ ?_ (fun σ H Q Q' m h=>zu7 σ H Q Q' m h)
   ·rw [hc];exact Nat.le_refl _
   ·exact Nat.zero_le _
   ·rintro σ H' ⟨dn,rest,H0,S',v4,v5,hxs,rfl,hd,R',hc',htl,hSb,htx,htd⟩;have hSa:SqL K H' a (l.map V.int):=SqL.mono hS (hSb.trans R'.same);walk_at "rd2"
    refine ⟨_,.inl ⟨_,hSa,rfl⟩,?_⟩;rw [List.length_map];cases rest with
    | nil=>
     rw [List.append_nil] at hxs;subst hxs;rw [if_neg (by rw [hl];omega)]
     refine hRR _ _ ⟨v4,v5,by rw [←hl],?_⟩
     rw [hans];exact R'.same _ _ htl
    | cons x rest=>
     have hl2:l=flat dn++flat1 x++flat rest:=by rw [hl,hxs,zt8,List.append_assoc];rfl
     have hpos:=flat1_pos x;have hll2:l.length=(flat dn).length+(flat1 x).length+(flat rest).length:=by rw [hl2,List.length_append,List.length_append]
     have hxn:dn.length+1≤xs.length:=by rw [hxs,List.length_append,List.length_cons];omega
     rw [if_pos (by rw [hll2];omega)]
     refine ⟨a,flat dn,flat rest,x,rfl,hl2▸hSa,fun H5 s5=>⟨_,rfl,_,SqL.mono hSa s5,fun y hy=>?_⟩⟩;rw [show cutV (l.map V.int) (some ((flat dn).length:Int)) (some (((flat dn).length+(flat1 x).length:Nat):Int))=(flat1 x).map V.int by rw [hl2];exact cut_mid _ _ _]
     have R5:=(R'.sameR s5).sameR (Same.new (o:=.lst ((flat1 x).map V.int)) hy);refine ⟨H0,S',y,x,by rw [hd],R5,zaa,by omega,fun H6 S6 r hd6 hc6 R6 hr6 nr=>?_⟩
     have htl6:=R6.same _ _ htl;have hrt:r≠tl:=(zag htl nr).symm;have hal:=ans_len R'.val x;rw [hc'] at hal hc6 hr6;have hb:(PyFlat.told (playX [] (dn++[x]))).length≤(dn.length+1)*(l.length+1000):=by
      rw [zhk,zld,List.length_append,List.length_cons,Nat.add_mul];have:=hc'▸htx;omega
     have hb2:(dn.length+1)*(l.length+1000)≤2000000:=Nat.le_trans (Nat.mul_le_mul_right _ hxn) hx3;have hb3:(PyFlat.told (playX [] dn)).length+1+(ansI (Wqatcy.step (run [] dn) x).2).length≤2000000:=by
      have:=hb;rw [zhk,zld,List.length_append,List.length_cons] at this;omega
     refine ⟨.inl ⟨rfl,_,SqL.of htl6⟩,_,.inl ⟨_,SqL.of hr6,rfl⟩,_,htl6,by rw [List.length_map,sizeLine_eq];omega,.inl ⟨rfl,_,SqL.of zaa⟩,r,rfl,_,zaa,_,by rw [zac hrt];exact hr6,?_,?_,?_⟩
     ·rw [List.length_append,List.length_map,sizeLine_eq];show _+1+((ansI _).map V.int).length≤_;rw [List.length_map];omega
     ·refine ⟨dn++[x],rest,_,S6,_,_,by rw [hxs,List.append_assoc];rfl,by rw [zr3,List.length_append],by rw [hd6,hd],(R6.aside htl).aside zaa,by rw [hc6,run_snoc],?_,Same.upd (Same.upd hSb ntl) ntl,?_,?_⟩
      ·rw [zaa,zhk,zld,List.map_append,List.append_assoc];show some (HO.lst (_++([V.int _]++((ansI _).map V.int))))=_;rw [show (ansV (Wqatcy.step (run [] dn) x).2).length=(ansI (Wqatcy.step (run [] dn) x).2).length from List.length_map _]
       rfl
      ·rw [hc6,zr3,List.length_append];have:=zxq (run [] dn) x;have:=hc'▸htx;omega
      ·rw [List.length_append];exact hb
     ·show l.length - (((flat dn).length+(flat1 x).length:Nat):Int).toNat<l.length - ((flat dn).length:Int).toNat;omega
  ·rintro σ4 H4 ⟨v4,v5,rfl,h4⟩;walk_at "rd2"
   exact k H4 tl h4
end
end
section
open PySem PyProof.Rows
section rt
variable {M:Model}{A:Around}{s z:Shared}{kd:SortKind}{X Y:Type}
def Rt (M:Model)(A:Around)(s z:Shared)(t:Sem X):Prop:=
 ∀ (g:PySem.Ctx),g.In A→∀ (Q:X→Pos→Shared→Prop) (E:Value→Pos→Shared→Prop) (p p1:Pos),Sem.wp M g t Q E p z→
  Sem.wp M g t (fun a _ y=>y=s∧∃ q,Q a q z) (fun e _ y=>y=s∧∃ q,E e q z) p1 s
theorem rt_rule (tag:String):Rt M A s z (rule tag):=by
 intro g _ Q E p p1 h;exact ⟨rfl,p,h⟩
theorem zv1 {m:Sem X}(h1:Rt M A s z m):Rt M A s z m.attempt:=by
 intro g hg Q E p p1 h;rw [Sem.wp_attempt] at h ⊢;exact h1 g hg _ _ p p1 h
def Rs (M:Model)(A:Around)(s z:Shared)(kd:SortKind)(m:StateT SortSt Sem X):Prop:=
 ∀ st,kindOf st=kd→∀ (g:PySem.Ctx),g.In A→∀ (Q:X×SortSt→Pos→Shared→Prop) (E:Value→Pos→Shared→Prop) (p p1:Pos),Sem.wp M g (m.run st) Q E p z→
  Sem.wp M g (m.run st) (fun a _ y=>y=s∧kindOf a.2=kd∧∃ q,Q a q z) (fun e _ y=>y=s∧∃ q,E e q z) p1 s
theorem zf1 (a:X):Rs M A s z kd (pure a):=by
 intro st hk g _ Q E p p1 h;rw [StateT.run_pure] at h ⊢;rw [Sem.wp_pure'] at h ⊢;exact ⟨rfl,hk,p,h⟩
theorem zdx {m:StateT SortSt Sem X}{f:X→StateT SortSt Sem Y}(h1:Rs M A s z kd m)(h2:∀ a,Rs M A s z kd (f a)):Rs M A s z kd (m >>= f):=by
 intro st hk g hg Q E p p1 h;rw [StateT.run_bind] at h ⊢;rw [Sem.wp_bind'] at h ⊢;refine Sem.wp_mono M g _ (fun a p' y hy=>?_) (fun e p' y hy=>hy) p1 s (h1 st hk g hg _ _ p p1 h);obtain ⟨rfl,hk',q,hq⟩:=hy;exact h2 a.1 a.2 hk' g hg Q E q p' hq
theorem zq2 {f:SortSt→StateT SortSt Sem Y}(h2:∀ st,kindOf st=kd→Rs M A s z kd (f st)):Rs M A s z kd (get >>= f):=by
 intro st hk g hg Q E p p1 h;rw [StateT.run_bind,StateT.run_get] at h ⊢;exact h2 st hk st hk g hg Q E p p1 h
theorem rs_set {st':SortSt}(h:kindOf st'=kd):Rs M A s z kd (set st':StateT SortSt Sem PUnit):=by
 intro st hk g hg Q E p p1 h;rw [StateT.run_set] at h ⊢;exact ⟨rfl,‹kindOf st'=kd›,p,h⟩
theorem zlk {f:SortSt→SortSt}(h:∀ st,kindOf (f st)=kindOf st):Rs M A s z kd (modify f:StateT SortSt Sem PUnit):=by
 intro st hk g hg Q E p p1 h';rw [StateT.run_modify] at h' ⊢;exact ⟨rfl,(h st).trans hk,p,h'⟩
theorem ztf {m:Sem X}(h:Rt M A s z m):Rs M A s z kd (liftM m:StateT SortSt Sem X):=by
 intro st hk g hg Q E p p1 h';have e:(liftM m:StateT SortSt Sem X).run st=m >>= fun a=>pure (a,st):=by
  show (StateT.lift m:StateT SortSt Sem X).run st=_;rw [StateT.run_lift]
 rw [e,Sem.wp_bind'] at h' ⊢;refine Sem.wp_mono M g _ (fun a p' y hy=>?_) (fun e p' y hy=>hy) p1 s (h g hg _ _ p p1 h');obtain ⟨rfl,q,hq⟩:=hy;exact ⟨rfl,hk,q,hq⟩
theorem rs_no (t:String):Rs M A s z kd (unsupported t:StateT SortSt Sem X):=by
 intro st hk g hg Q E p p1 h;exact False.elim h
theorem rs_list (f:Nat→Y→StateT SortSt Sem (ForInStep Y))(h:∀ i b,Rs M A s z kd (f i b)):∀ (l:List Nat) (b:Y),Rs M A s z kd (forIn l b f)
 | [],b=>by rw [List.forIn_nil];exact zf1 b
 | x::l,b=>by
  rw [List.forIn_cons];refine zdx (h x b) fun r=>?_;cases r with
  | done b'=>exact zf1 b'
  | yield b'=>exact rs_list f h l b'
theorem zop {a b:Nat}{f:Nat→Y→StateT SortSt Sem (ForInStep Y)}{c:Y}(h:∀ i b,Rs M A s z kd (f i b)):Rs M A s z kd (forIn [a:b] c f):=by
 rw [Std.Legacy.Range.forIn_eq_forIn_range'];exact rs_list f h _ c
theorem rs_if {c:Prop}[Decidable c]{a b:StateT SortSt Sem X}(h1:Rs M A s z kd a)(h2:Rs M A s z kd b):Rs M A s z kd (if c then a else b):=by
 split
 ·exact h1
 ·exact h2
theorem zji (arr:Array Keyed)(i:Nat):Rs M A s z kd (elem' arr i):=by
 rw [elem'_eq];split
 ·exact zf1 _
 ·exact rs_no _
variable (hc:∀ x y,Rt M A s z (keyLt' kd x y))
include hc
theorem rs_lt (x y:Keyed):Rs M A s z kd (lt' x y):=by
 rw [lt'_eq];refine zq2 fun st hk=>?_;rw [hk];refine zdx (ztf (zv1 (hc _ _))) fun r=>?_;split
 ·exact zf1 _
 ·exact zdx (zlk fun _=>rfl) fun _=>zf1 _
theorem rs_ltAt (i j:Nat):Rs M A s z kd (ltAt' i j):=by
 rw [ltAt'_eq];refine zq2 fun st hk=>?_;exact zdx (zji _ _) fun _=>zdx (zji _ _) fun _=>rs_lt hc _ _
end rt
end
section
open PySem PyProof.Rows
section rt
variable {M:Model}{A:Around}{s z:Shared}{kd:SortKind}{X Y:Type}
variable (hc:∀ x y,Rt M A s z (keyLt' kd x y))
include hc
local macro_rules | `(tactic| walk_at "rs")=>`(tactic| repeat' first
 | with_reducible exact zf1 _
 | with_reducible exact rs_no _
 | with_reducible exact zji _ _
 | with_reducible exact rs_lt hc _ _
 | with_reducible exact rs_ltAt hc _ _
 | with_reducible exact ztf (rt_rule _)
 | with_reducible exact zlk fun _=>rfl
 | with_reducible exact rs_set (by assumption)
 | with_reducible refine zq2 fun _ _=>?_
 | with_reducible refine zdx ?_ fun _=>?_
 | with_reducible refine zop fun _ _=>?_
 | with_reducible refine rs_if ?_ ?_
 | split
 | dsimp only)
theorem rs_binary (lo n ok:Nat):Rs M A s z kd (binarySort' lo n ok):=by
 rw [binarySort'_eq];simp only [moveDown'_eq];walk_at "rs"
theorem rs_count (lo n:Nat):Rs M A s z kd (countRun' lo n):=by
 rw [countRun'_eq];simp only [reverseSlice'_eq];walk_at "rs"
theorem rs_beyond (left:Bool)(key:Keyed)(arr:Array Keyed)(base i:Nat):Rs M A s z kd (beyond' left key arr base i):=by
 cases left with
 | true=>
  show Rs M A s z kd (do lt' (←elem' arr (base+i)) key)
  exact zdx (zji _ _) fun _=>rs_lt hc _ _
 | false=>
  show Rs M A s z kd (do return (←lt' key (←elem' arr (base+i))).map (!·))
  exact zdx (zji _ _) fun _=>zdx (rs_lt hc _ _) fun _=>zf1 _
local macro_rules | `(tactic| walk_at "rs1")=>`(tactic| first
 | with_reducible exact rs_beyond hc _ _ _ _ _
 | with_reducible exact zf1 _
 | with_reducible refine zdx ?_ fun _=>?_
 | with_reducible refine zop fun _ _=>?_
 | with_reducible refine rs_if ?_ ?_
 | split
 | dsimp only)
theorem rs_gallop (left:Bool)(key:Keyed)(arr:Array Keyed)(base n hint:Nat):Rs M A s z kd (gallop' left key arr base n hint):=by
 rw [gallop'_eq];repeat' walk_at "rs1"
local macro_rules | `(tactic| walk_at "rs2")=>`(tactic| first
 | with_reducible exact zf1 _
 | with_reducible exact rs_no _
 | with_reducible exact zji _ _
 | with_reducible exact rs_lt hc _ _
 | with_reducible exact rs_gallop hc _ _ _ _ _ _
 | with_reducible exact ztf (rt_rule _)
 | with_reducible exact zlk fun _=>rfl
 | with_reducible refine zq2 fun _ _=>?_
 | with_reducible refine zdx ?_ fun _=>?_
 | with_reducible refine zop fun _ _=>?_
 | with_reducible refine rs_if ?_ ?_
 | split
 | dsimp only)
theorem rs_lo (a b:Array Keyed):Rs M A s z kd (mergeLo' a b):=by
 rw [mergeLo'_eq];simp only [setMinGallop'_eq];repeat' walk_at "rs2"
theorem rs_hi (a b:Array Keyed):Rs M A s z kd (mergeHi' a b):=by
 rw [mergeHi'_eq];simp only [setMinGallop'_eq];repeat' walk_at "rs2"
theorem zv2 (i:Nat):Rs M A s z kd (mergeAt' i):=by
 rw [mergeAt'_eq];refine zq2 fun st hk=>?_;dsimp only;split
 ·refine zdx (rs_set hk) fun _=>?_;repeat' first
   | with_reducible exact rs_lo hc _ _
   | with_reducible exact rs_hi hc _ _
   | walk_at "rs2"
 ·exact rs_no _
theorem rs_runs:Rs M A s z kd sortRuns':=by
 rw [sortRuns'_eq];repeat' first
  | with_reducible exact zv2 hc _
  | with_reducible exact rs_count hc _ _
  | with_reducible exact rs_binary hc _ _ _
  | walk_at "rs2"
omit hc in
theorem rs_wpS {E F:Value→Shared→Prop}{m:StateT SortSt Sem X}{Q:X→SortSt→Prop}{st:SortSt}(h:Rs M A s z kd m)(hk:kindOf st=kd)(h':wpS M A (fun _ _=>False) z m Q st):wpS M A E s m Q st:=by
 intro g p hg;refine Sem.wp_mono M g _ (fun a p' y hy=>?_) (fun e p' y hy=>?_) p s (h st hk g hg _ _ p p (h' g p hg))
 ·obtain ⟨rfl,_,q,_,hq⟩:=hy;exact ⟨rfl,hq⟩
 ·obtain ⟨_,_,hf⟩:=hy;exact hf.elim
end rt
end
section
open PySem PyProof.Rows
def fkO (k:Nat):Obj:={cls:=.type "tuple",data:=.seq (Array.replicate k Value.none) 0}
def fkAt (rk:Addr→Option Nat)(i:Nat):Obj:=match rk i with
 | some k=>fkO k
 | none=>{cls:=.none,data:=.freed}
def fkH (n:Nat)(rk:Addr→Option Nat):Heap:=⟨(Array.range n).map (fkAt rk),{}⟩
theorem fkH_get {n:Nat}{rk:Addr→Option Nat}(hb:∀ a k,rk a=some k→a<n)(a:Addr):(fkH n rk).get? a=(rk a).map fkO:=by
 unfold fkH Heap.get?;dsimp only;by_cases ha:a<n
 ·have e:((Array.range n).map (fkAt rk))[a]? = some (fkAt rk a):=by
   rw [Array.getElem?_map,Array.getElem?_eq_getElem (by rw [Array.size_range];exact ha),Array.getElem_range]
   rfl
  rw [e];unfold fkAt;cases rk a with
  | none=>rfl
  | some k=>rfl
 ·have e:((Array.range n).map (fkAt rk))[a]? = none:=by
   rw [Array.getElem?_eq_none];rw [Array.size_map,Array.size_range];exact Nat.le_of_not_lt ha
  rw [e];cases h:rk a with
  | none=>rfl
  | some k=>exact absurd (hb a k h) ha
section
variable {M:Model}{g:PySem.Ctx}{E:Value→Pos→Shared→Prop}{p:Pos}{z:Shared}
theorem zrx {Q:Array Value→Pos→Shared→Prop}{x:Value}(h:Sem.wp M g (Builtin.List.listItems x) Q E p z):∃ a o xs n,x=.ref a∧z.heap.get? a=some o∧o.data=.seq xs n∧Q xs p z:=by
 unfold Builtin.List.listItems seqItems? at h;rw [Sem.wp_bind'] at h;have no:∀ v:Value,(Sem.wp M g (do notAStandIn v;pure (none:Option (Array Value))) (fun a p s=>Sem.wp M g (match a with | some xs=>pure xs | none=>unsupported "internal:list-without-items") Q E p s) E p z)→False:=by
  intro v hv;rw [Sem.wp_bind'] at hv;cases v with
  | builtin id=>
   unfold notAStandIn at hv;dsimp only at hv;split at hv
   ·exact hv
   ·exact hv
  | _=>exact hv
 cases x with
 | ref a=>
  dsimp only at h;rw [Sem.wp_bind',Sem.wp_cmd_load] at h;obtain ⟨o,ho,h⟩:=h;cases hd:o.data with
  | seq xs n=>
   rw [hd] at h;exact ⟨a,o,xs,n,rfl,ho,hd,h⟩
  | _=>
   rw [hd] at h;exact False.elim h
 | _=>exact (no _ h).elim
theorem zu9 {Q:Array Value→Pos→Shared→Prop}{a:Addr}{k:Nat}(ho:z.heap.get? a=some (fkO k)):Sem.wp M g (Builtin.List.listItems (.ref a)) Q E p z=Q (Array.replicate k Value.none) p z:=by
 unfold Builtin.List.listItems seqItems?;dsimp only;rw [Sem.wp_bind',Sem.wp_bind',Sem.wp_cmd_load];refine propext ⟨fun ⟨o,h1,h2⟩=>?_,fun h=>⟨_,ho,h⟩⟩;rw [ho] at h1;cases h1;exact h2
theorem eq_none {Q:Bool→Pos→Shared→Prop}:Sem.wp M g (eqBool .none .none) Q E p z=Q true p z:=by
 unfold eqBool;rw [Sem.wp_holding,if_pos (by rfl)]
 rfl
theorem znq {R:Option Bool×Unit→Pos→Shared→Prop}{body:(Value×Value)×Nat→Option Bool×Unit→Sem (ForInStep (Option Bool×Unit))}(hb:∀ i R',Sem.wp M g (body ((.none,.none),i) (none,())) R' E p z=R' (.yield (none,())) p z):∀ (l:List (Value×Value)) (i:Nat),(∀ x∈l,x=(.none,.none))→Sem.wp M g (forIn (l.zipIdx i) (none,()) body) R E p z=R (none,()) p z
 | [],i,_=>by
  rw [List.zipIdx_nil,List.forIn_nil];rfl
 | x::r,i,h=>by
  rw [List.zipIdx_cons,List.forIn_cons,h x (.head _),Sem.wp_bind',hb];exact znq hb r (i+1) fun y hy=>h y (.tail _ hy)
theorem fk_lt {Q:Bool→Pos→Shared→Prop}{b:Bool}{x y:Addr}{i j:Nat}(hx:z.heap.get? x=some (fkO i))(hy:z.heap.get? y=some (fkO j)):Sem.wp M g (keyLt' (tuples' b) (.ref x) (.ref y)) Q E p z=Q (decide (i<j)) p z:=by
 rw [kat_lt_eq,Sem.wp_bind',zu9 hx,Sem.wp_bind',zu9 hy,Sem.wp_bind',znq]
 ·dsimp only;rw [Array.size_replicate,Array.size_replicate];rfl
 ·intro k R';dsimp only;rw [Sem.wp_bind',eq_none];rfl
 ·rintro ⟨u,v⟩ hm;obtain ⟨h1,h2⟩:=List.of_mem_zip hm;simp only [Array.toList_replicate,List.mem_replicate] at h1 h2;rw [h1.2,h2.2]
end
def rkKind (rk:Addr→Option Nat):PyProof.Rows.KeyKind where
 α:=Nat
 blt:=fun a b=>decide (a<b)
 irrefl:=fun a=>by simp
 trans:=fun a b c h1 h2=>by
  have h1:=of_decide_eq_true h1;have h2:=of_decide_eq_true h2;exact decide_eq_true (by omega)
 negTrans:=fun a b c h=>by
  have h:=of_decide_eq_true h;by_cases hab:a<b
  ·exact .inl (decide_eq_true hab)
  ·exact .inr (decide_eq_true (by omega))
 total:=fun a b h1 h2=>by
  have h1:=of_decide_eq_false h1;have h2:=of_decide_eq_false h2;omega
 keyOf:=fun v=>match v with
  | .ref a=>rk a
  | _=>none
 dflt:=0
section
variable {prog:Program}{w:World}{A:Around}{s:Shared}{rk:Addr→Option Nat}{b:Bool}
def RkLt (prog:Program)(w:World)(A:Around)(s:Shared)(rk:Addr→Option Nat)(b:Bool):Prop:=
 ∀ (x y:Addr) (i j:Nat) (Q:Bool→Shared→Prop),rk x=some i→rk y=some j→Q (decide (i<j)) s→wpAny (model prog w) A (keyLt' (tuples' b) (.ref x) (.ref y)) Q (fun _ _=>False) s
theorem rk_sort {E:Value→Shared→Prop}{a₀:Array Keyed}{st:SortSt}{Q:Unit→SortSt→Prop}(hr:RkLt prog w A s rk b)(hb:∀ a k,rk a=some k→a<s.heap.objs.size)(h0:KeysOf (rkKind rk) a₀)(hp:(arrOf st).Perm a₀)(hk:kindOf st=tuples' b)(hf:failedOf st=none)(hpd:pendingOf st=#[])(hst:Stable (rkKind rk) (arrOf st) a₀)(h2:2≤a₀.size)(h:∀ st',(arrOf st').Perm a₀→failedOf st'=none→SortedToK (rkKind rk) (arrOf st') a₀.size→Q () st'):wpS (model prog w) A E s sortRuns' Q st:=by
 let z:Shared:={s with heap:=fkH s.heap.objs.size rk}
 have hz:∀ a,z.heap.get? a=(rk a).map fkO:=fkH_get hb;have hz1:∀ a k,rk a=some k→z.heap.get? a=some (fkO k):=fun a k e=>by rw [hz,e];rfl
 have hz2:∀ a o,z.heap.get? a=some o→∃ k,rk a=some k:=fun a o e=>by
  rw [hz] at e;cases h:rk a with
  | none=>rw [h] at e;cases e
  | some k=>exact ⟨k,rfl⟩
 refine rs_wpS (F:=E) (z:=z) (kd:=tuples' b) (rs_runs fun x y=>?_) hk (PyProof.Rows.G.wpS_sortRunsSt (κ:=rkKind rk) (kd:=tuples' b) (a₀:=a₀) ?_ h0 ⟨hp,hk,hf⟩ hpd hst h2 fun st' q1 q2 q3 _=>h st' q1 q2 q3)
 ·intro g hg Q' E' p p1 hw;have hw':=hw;rw [kat_lt_eq,Sem.wp_bind'] at hw';obtain ⟨a,o,xs,n,rfl,ho,hd,hw'⟩:=zrx hw';rw [Sem.wp_bind'] at hw';obtain ⟨c,o',ys,m,rfl,ho',hd',_⟩:=zrx hw';obtain ⟨i,hi⟩:=hz2 a o ho;obtain ⟨j,hj⟩:=hz2 c o' ho';rw [fk_lt (hz1 a i hi) (hz1 c j hj)] at hw;exact Sem.wp_mono _ _ _ (fun _ _ _ hq=>hq) (fun _ _ _ hq=>hq.elim) _ _ (hr a c i j (fun v y=>y=s∧∃ q,Q' v q z) hi hj ⟨rfl,p,hw⟩ g p1 hg)
 ·intro A' E' x y i j Q' hx hy hq g p hg;have key:∀ v k,(rkKind rk).keyOf v=some k→∃ a,v=.ref a∧rk a=some k:=fun v k hv=>by
   cases v with
   | ref a=>exact ⟨a,rfl,hv⟩
   | _=>cases hv
  obtain ⟨a,rfl,hi⟩:=key x i hx;obtain ⟨c,rfl,hj⟩:=key y j hy;rw [fk_lt (hz1 a i hi) (hz1 c j hj)];exact hq
end
end
section
open PySem PyProof.Rows L2
open PySem.AutoSeq1 (wpAny_loadPart')
open PySem.MeetsSeq PySem.MeetsSeq2 PySem.MeetsSeq3 PySem.SeqRoads2
open RgCase (rowBefore setBefore numbersIn)
def Row (its:Array Value)(ns:List Nat):Prop:=its.size=ns.length∧∀ (i:Nat) (x:Nat),ns[i]? = some x→∃ t:Tok,its[i]? = some (Value.int (x:Nat) t)
theorem row_of {its:List Value}{ns:List Nat}(h:Vals (natV ns) its):Row its.toArray ns:=by
 refine ⟨?_,fun i x hx=>?_⟩
 ·rw [List.size_toArray,←h.length];exact List.length_map _
 ·have hx':(natV ns)[i]? = some (V.int (x:Nat)):=by
   unfold natV;rw [List.getElem?_map,hx];rfl
  obtain ⟨u,hu,t,rfl⟩:=zcu h hx';exact ⟨t,by rw [List.getElem?_toArray];exact hu⟩
theorem zua {A:Around}{s:Shared}(a b:Nat)(t u:Tok):SeqAt.EqAt A s (.int (a:Nat) t) (.int (b:Nat) u) (decide (a=b)):=by
 have h:=zvd (A:=A) (s:=s) (y:=.int (a:Nat)) (x:=.int (b:Nat)) (u:=.int (a:Nat) t) (v:=.int (b:Nat) u) ⟨t,rfl⟩ ⟨u,rfl⟩ rfl rfl;have e:eqV (.int (a:Nat)) (.int (b:Nat))=decide (a=b):=by
  show ((a:Int)==(b:Int))=_;by_cases h:a=b
  ·subst h;simp
  ·rw [decide_eq_false h];rw [beq_eq_false_iff_ne];omega
 rw [e] at h;exact h
theorem lt_loopAt (l b:Addr)(items items2:Array Value)(ns ms:List Nat)(n n2:Nat)(h1:Row items ns)(h2:Row items2 ms)(hsz:ns.length=ms.length)(k:Nat):
  ∀ i:Nat,ns.length - i=k→Meets (Builtin.«list.__eq__.loop» ⟨[.ref l,.ref b,rawInt i,rawInt 0],[]⟩)
   (fun _ R s=>s.heap.get? l=some {cls:=.type "list",data:=.seq items n}∧s.heap.get? b=some {cls:=.type "list",data:=.seq items2 n2}∧
    R (.ok (.ret (.bool (rowBefore (ns.drop i) (ms.drop i))))) s):=by
 induction k with
 | zero=>
  intro i hk prog w A R s h;obtain ⟨hp,g,d,tk,os⟩:=s;obtain ⟨hl,hb,h⟩:=h;wp_walk using wpAny_loadPart' hl,wpAny_loadPart' hb
  have z1:=h1.1;have z2:=h2.1;have hi1:items[((i:Nat):Int).toNat]? = none:=by simp;omega
  have hi2:items2[((i:Nat):Int).toNat]? = none:=by simp;omega
  have hd:ns.drop i=[]:=by simp;omega
  rw [hd] at h;rw [hi1,hi2];wp_walk using wpAny_loadPart' hl,wpAny_loadPart' hb
  show R (.ok (.ret (.bool (decide (items.size<items2.size))))) _;rw [decide_eq_false (by omega)]
  exact h
 | succ k ih=>
  intro i hk prog w A R s h;obtain ⟨hp,g,d,tk,os⟩:=s;obtain ⟨hl,hb,h⟩:=h;wp_walk using wpAny_loadPart' hl,wpAny_loadPart' hb
  have hlt:i<ns.length:=by omega
  have hlt2:i<ms.length:=by omega
  obtain ⟨t,e1⟩:=h1.2 i _ (List.getElem?_eq_getElem hlt);obtain ⟨u,e2⟩:=h2.2 i _ (List.getElem?_eq_getElem hlt2);have hi1:items[((i:Nat):Int).toNat]? = some (.int (ns[i]:Nat) t):=by rw [Int.toNat_natCast];exact e1
  have hi2:items2[((i:Nat):Int).toNat]? = some (.int (ms[i]:Nat) u):=by rw [Int.toNat_natCast];exact e2
  have hd:ns.drop i=ns[i]::ns.drop (i+1):=List.drop_eq_getElem_cons hlt;have hd2:ms.drop i=ms[i]::ms.drop (i+1):=List.drop_eq_getElem_cons hlt2;have hc:((i:Int)+1)=((i+1:Nat):Int):=by push_cast;rfl
  rw [hd,hd2] at h;rw [hi1,hi2];refine wpAny_bind (zua ns[i] ms[i] t u prog w _ _ ?_);by_cases he:ns[i]=ms[i]
  ·rw [decide_eq_true he];have e3:rowBefore (ns[i]::ns.drop (i+1)) (ms[i]::ms.drop (i+1))=rowBefore (ns.drop (i+1)) (ms.drop (i+1)):=by
    show (decide (ns[i]<ms[i])||(ns[i]==ms[i]&&_))=_;rw [he];simp
   rw [e3] at h;wp_walk
   rw [hc];exact ⟨plainId_quiet plain_eq_loop _,codeAny_builtin entry_eq_loop (by
    rw [Around.under_plainId plain_eq_loop _];exact ih (i+1) (by omega) prog w A R _ ⟨hl,hb,h⟩)⟩
  ·rw [decide_eq_false he];have e3:rowBefore (ns[i]::ns.drop (i+1)) (ms[i]::ms.drop (i+1))=decide (ns[i]<ms[i]):=by
    show (decide (ns[i]<ms[i])||(ns[i]==ms[i]&&_))=_;rw [beq_eq_false_iff_ne.mpr he];simp
   rw [e3] at h;wp_walk using wpAny_loadPart' hl,wpAny_loadPart' hb
   rw [hi1,hi2];refine wpAny_bind (show wpAny (model prog w) A.in1 (compareOp .Lt (.int (ns[i]:Nat) t) (.int (ms[i]:Nat) u)) _ _ _ from wpAny_lt_int (wpAny_pure ?_))
   rw [show decide (((ns[i]:Nat):Int)<((ms[i]:Nat):Int))=decide (ns[i]<ms[i]) from decide_eq_decide.mpr (by omega)]
   exact h
theorem list_ltAt (l b:Addr)(items items2:Array Value)(ns ms:List Nat)(n n2:Nat)(h1:Row items ns)(h2:Row items2 ms)(hsz:ns.length=ms.length):
  Meets (Builtin.«list.__lt__» ⟨[.ref l,.ref b],[]⟩)
   (fun _ R s=>s.heap.get? l=some {cls:=.type "list",data:=.seq items n}∧s.heap.get? b=some {cls:=.type "list",data:=.seq items2 n2}∧R (.ok (.ret (.bool (rowBefore ns ms)))) s):=by
 intro prog w A R s h;obtain ⟨hp,g,d,tk,os⟩:=s;obtain ⟨hl,hb,h⟩:=h;have f3:=AutoSeq1.sub_list_list;wp_walk using wpAny_loadPart' hl,wpAny_loadPart' hb
 exact ⟨plainId_quiet plain_eq_loop _,codeAny_builtin entry_eq_loop (by
  rw [Around.under_plainId plain_eq_loop _];exact lt_loopAt l b items items2 ns ms n n2 h1 h2 hsz _ 0 rfl prog w A R _ ⟨hl,hb,h⟩)⟩
theorem lt_lists {prog:Program}{w:World}{A:Around}{E:Value→Shared→Prop}{s:Shared}{l b:Addr}{items items2:Array Value}{ns ms:List Nat}{n n2:Nat}{Q:Value→Shared→Prop}(h1:Row items ns)(h2:Row items2 ms)(hsz:ns.length=ms.length)(hl:s.heap.get? l=some {cls:=.type "list",data:=.seq items n})(hb:s.heap.get? b=some {cls:=.type "list",data:=.seq items2 n2})(hu:A.units<cLine)(h:Q (.bool (rowBefore ns ms)) s):
  wpAny (model prog w) A (compareOp .Lt (.ref l) (.ref b)) Q E s:=
 richCompare_meets_room (op:=.Lt) ⟨_,hl,rfl⟩ ⟨_,hb,rfl⟩ F.slot_list_lt F.entry_list_lt (F.args_list_lt_2 _ _) (list_ltAt l b items items2 ns ms n n2 h1 h2 hsz)
  ⟨hl,hb,show Value.bool (rowBefore ns ms)≠Value.notImplemented∧Q (.bool (rowBefore ns ms)) s from ⟨(fun x=>nomatch x),h⟩⟩ hu
def RkH (H:Hp)(rk:Addr→Option Nat):Prop:=∀ x k,rk x=some k→∃ (b:Nat) (l:Addr),k=setKey b∧H x=some (.tup [.int ((numbersIn b).length:Nat),.ref l])∧H l=some (.lst (natV (numbersIn b)))
theorem zpb:∀ {a b:List Nat},natV a=natV b→a=b
 | [],[],_=>rfl
 | [],_::_,h=>nomatch h
 | _::_,[],h=>nomatch h
 | x::a,y::b,h=>by
  have h':V.int (x:Nat)::natV a=V.int (y:Nat)::natV b:=h;injection h' with h1 h2;injection h1 with h1;rw [zpb h2,show x=y by omega]
theorem zsz {its:List Value}{n:Nat}{l:Addr}(h:Vals [.int (n:Nat),.ref l] its):∃ t,its=[.int (n:Nat) t,.ref l]:=by
 cases h with
 | cons h1 h2=>
  cases h2 with
  | cons h3 h4=>
   cases h4;obtain ⟨t,rfl⟩:=h1;exact ⟨t,by rw [show _=Value.ref l from h3]⟩
theorem rk_lt {prog:Program}{w:World}{A:Around}{s:Shared}{H:Hp}{rk:Addr→Option Nat}(hr:RkH H rk)(ho:HOk prog w H s.heap)(hu:A.units<cLine):RkLt prog w A s rk true:=by
 intro x y i j Q hx hy hq;obtain ⟨b,l,rfl,hx1,hx2⟩:=hr x i hx;obtain ⟨c,m,rfl,hy1,hy2⟩:=hr y j hy;obtain ⟨_,its,vx,ox,gx,cx,nx,dx⟩:=ho x _ hx1;obtain ⟨_,its',vy,oy,gy,cy,ny,dy⟩:=ho y _ hy1;obtain ⟨_,li,n,vl,gl⟩:=ho l _ hx2;obtain ⟨_,mi,n',vm,gm⟩:=ho m _ hy2;obtain ⟨t,rfl⟩:=zsz vx;obtain ⟨t',rfl⟩:=zsz vy;have kb:decide (setKey b<setKey c)=setBefore b c:=by
  by_cases h:setKey b<setKey c
  ·rw [decide_eq_true h,zhu.mpr h]
  ·rw [decide_eq_false h];cases e:setBefore b c with
   | false=>rfl
   | true=>exact absurd (zhu.mp e) h
 rw [kb] at hq;refine PySem.W.kat_lt gx dx gy dy (PySem.W.kat_cons (zua _ _ t t' prog w _ _ ?_));by_cases hn:(numbersIn b).length=(numbersIn c).length
 ·rw [decide_eq_true hn];have e1:setBefore b c=rowBefore (numbersIn b) (numbersIn c):=by
   unfold setBefore;rw [hn];simp
  rw [e1] at hq;have same:numbersIn b=numbersIn c→Q false s:=fun z=>by
   have e2:rowBefore (numbersIn b) (numbersIn c)=false:=by
    rw [←e1,←kb];unfold setKey;rw [z];simp
   rw [e2] at hq;exact hq
  refine PySem.W.kat_yes (PySem.W.kat_cons ?_);by_cases hlm:l=m
  ·subst hlm;refine SeqAt.EqAt.same _ prog w _ _ (PySem.W.kat_yes (PySem.W.kat_nil (same ?_)));rw [hx2] at hy2;have e3:natV (numbersIn b)=natV (numbersIn c):=by
    injection hy2 with z;injection z
   exact zpb e3
  ·have r1:=row_of vl;have r2:=row_of vm;refine SeqAt.EqAt.of_refs hlm (SeqAt.RcAt.lists (e:=fun k=>decide ((numbersIn b)[k]? = (numbersIn c)[k]?)) ⟨_,gl,rfl,_,rfl⟩ ⟨_,gm,rfl,_,rfl⟩ (by rw [r1.1,r2.1,hn]) hu fun k h1 h2=>?_) prog w _ _ ?_
   ·have k1:k<(numbersIn b).length:=by rw [←r1.1];exact h1
    have k2:k<(numbersIn c).length:=by rw [←r2.1];exact h2
    obtain ⟨u,e1⟩:=r1.2 k _ (List.getElem?_eq_getElem k1);obtain ⟨u',e2⟩:=r2.2 k _ (List.getElem?_eq_getElem k2);have e1':li.toArray[k]=Value.int ((numbersIn b)[k]:Nat) u:=by
     rw [Array.getElem?_eq_getElem h1] at e1;exact Option.some.inj e1
    have e2':mi.toArray[k]=Value.int ((numbersIn c)[k]:Nat) u':=by
     rw [Array.getElem?_eq_getElem h2] at e2;exact Option.some.inj e2
    rw [e1',e2',List.getElem?_eq_getElem k1,List.getElem?_eq_getElem k2,show decide (some (numbersIn b)[k]=some (numbersIn c)[k])=decide ((numbersIn b)[k]=(numbersIn c)[k]) from decide_eq_decide.mpr (by simp)]
    exact zua _ _ u u'
   ·cases hall:(List.range li.toArray.size).all (fun k=>decide ((numbersIn b)[k]? = (numbersIn c)[k]?)) with
    | true=>
     refine PySem.W.kat_yes (PySem.W.kat_nil (same ?_));refine List.ext_getElem? fun k=>?_;by_cases hk:k<(numbersIn b).length
     ·exact of_decide_eq_true (List.all_eq_true.mp hall k (List.mem_range.mpr (by rw [r1.1];exact hk)))
     ·rw [List.getElem?_eq_none (by omega),List.getElem?_eq_none (by omega)]
    | false=>
     refine PySem.W.kat_no (PySem.W.kat_one _ _ ?_);exact lt_lists r1 r2 hn gl gm hu hq
 ·rw [decide_eq_false hn];refine PySem.W.kat_no ?_;have e1:setBefore b c=decide ((numbersIn b).length<(numbersIn c).length):=by
   unfold setBefore;rw [beq_eq_false_iff_ne.mpr hn];simp
  rw [e1] at hq;show wpAny _ _ (oneLt' true _ _) _ _ _;rw [←keyLt'_oneType];refine PySem.W.kat_lt_int ?_;rw [show decide ((((numbersIn b).length:Nat):Int)<(((numbersIn c).length:Nat):Int))=decide ((numbersIn b).length<(numbersIn c).length) from decide_eq_decide.mpr (by omega)]
  exact hq
end
section
open PySem PyProof.Rows L2
open RgCase (rowBefore setBefore numbersIn)
def KeyAt (H:Hp)(v:Value)(b:Nat):Prop:=∃ t l,v=.ref t∧H t=some (.tup [.int ((numbersIn b).length:Nat),.ref l])∧H l=some (.lst (natV (numbersIn b)))
theorem KeyAt.mono {H H':Hp}{v:Value}{b:Nat}(S:Same H H')(h:KeyAt H v b):KeyAt H' v b:=by
 obtain ⟨t,l,e,h1,h2⟩:=h;exact ⟨t,l,e,S _ _ h1,S _ _ h2⟩
theorem KeyAt.one {H:Hp}{v:Value}{b c:Nat}(h:KeyAt H v b)(h':KeyAt H v c):setKey b=setKey c:=by
 obtain ⟨t,l,rfl,h1,h2⟩:=h;obtain ⟨t',l',e,h3,h4⟩:=h';cases e;rw [h1] at h3;injection h3 with z;injection z with z;injection z with _ z;injection z with z;injection z with z;subst z;rw [h2] at h4;injection h4 with z;injection z with z;unfold setKey;rw [zpb z]
theorem rk_ex (H:Hp):∃ rk:Addr→Option Nat,RkH H rk∧∀ t b,KeyAt H (.ref t) b→rk t=some (setKey b):=by
 have h:∀ t:Addr,∃ o:Option Nat,(∀ k,o=some k→∃ b,KeyAt H (.ref t) b∧k=setKey b)∧∀ b,KeyAt H (.ref t) b→o=some (setKey b):=fun t=>by
  by_cases h:∃ b,KeyAt H (.ref t) b
  ·obtain ⟨b,hb⟩:=h;exact ⟨some (setKey b),fun k hk=>⟨b,hb,(Option.some.inj hk).symm⟩,fun c hc=>by rw [hb.one hc]⟩
  ·exact ⟨none,fun k hk=>(nomatch hk),fun b hb=>absurd ⟨b,hb⟩ h⟩
 obtain ⟨rk,hr⟩:=Classical.axiomOfChoice h;refine ⟨rk,fun x k hk=>?_,fun t b hb=>(hr t).2 b hb⟩;obtain ⟨b,⟨t,l,e,h1,h2⟩,e2⟩:=(hr x).1 k hk;cases e;exact ⟨b,l,e2,h1,h2⟩
def numK (p:Keyed):Nat:=match p.2 with
 | .int n _=>n.toNat
 | _=>0
def GoodK (H:Hp)(p:Keyed):Prop:=KeyAt H p.1 (numK p)∧∃ t,p.2=.int (numK p:Nat) t
theorem zk2 {H:Hp}:∀ {bs:List Nat} {ks vs:List Value},Paired (fun b v=>KeyAt H v b) bs ks→Vals (natV bs) vs→(∀ p∈ks.zip vs,GoodK H p)∧(ks.zip vs).map numK=bs
 | [],_,_,.nil,hv=>by
  cases hv;exact ⟨fun _ h=>(nomatch h),rfl⟩
 | b::bs,_::ks,vs,.cons h r,hv=>by
  have hv':Vals (V.int (b:Nat)::natV bs) vs:=hv;cases hv' with
  | cons h1 h2=>
   obtain ⟨t,rfl⟩:=h1;obtain ⟨q1,q2⟩:=zk2 r h2;refine ⟨fun p hp=>?_,?_⟩
   ·rcases List.mem_cons.mp hp with rfl | hp
    ·have e:∀ v:Value,numK (v,.int (b:Nat) t)=b:=fun v=>Int.toNat_natCast b;exact ⟨by rw [e];exact h,t,by rw [e]⟩
    ·exact q1 p hp
   ·rw [List.zip_cons_cons,List.map_cons,q2];rw [show numK (_,Value.int (b:Nat) t)=b from Int.toNat_natCast b]
theorem zqh {H:Hp}:∀ {L:List Keyed},(∀ p∈L,GoodK H p)→Vals (natV (L.map numK)) (L.map (·.2))
 | [],_=>.nil
 | p::L,h=>.cons (h p (.head _)).2 (zqh fun q hq=>h q (.tail _ hq))
theorem zvw {H:Hp}{rk:Addr→Option Nat}{bs:List Nat}{ks vs:List Value}{arr:Array Keyed}(hk:Paired (fun b v=>KeyAt H v b) bs ks)(hv:Vals (natV bs) vs)(hrk:∀ t b,KeyAt H (.ref t) b→rk t=some (setKey b))(hp:arr.Perm (ks.toArray.zip vs.toArray))(hs:SortedToK (rkKind rk) arr arr.size):
  ∃ l:List Nat,l.Perm bs∧l.Pairwise (fun a b=>setKey a≤setKey b)∧Vals (natV l) (arr.map (·.2)).toList:=by
 obtain ⟨q1,q2⟩:=zk2 hk hv;have hl:arr.toList.Perm (ks.zip vs):=by
  have:=Array.perm_iff_toList_perm.mp hp;rwa [ksk_zip,List.toList_toArray] at this
 have good:∀ p∈arr.toList,GoodK H p:=fun p hp'=>q1 p (hl.mem_iff.mp hp');refine ⟨arr.toList.map numK,by rw [←q2];exact hl.map _,?_,by rw [Array.toList_map];exact zqh good⟩
 rw [List.pairwise_iff_getElem];intro i j hi hj hij;have hi':i<arr.size:=by simpa using hi
 have hj':j<arr.size:=by simpa using hj
 have kk:∀ k (h:k<arr.size),KK (rkKind rk) arr k=setKey (numK arr[k]):=fun k h=>by
  have g:=good arr[k] (by rw [Array.mem_toList_iff];exact Array.getElem_mem h)
  obtain ⟨t,l,e,_⟩:=id g.1;have e2:(rkKind rk).keyOf arr[k].1=some (setKey (numK arr[k])):=by
   have g1:=g.1;rw [e] at g1 ⊢;exact hrk t _ g1
  unfold KK;rw [Array.getElem?_eq_getElem h];show ((rkKind rk).keyOf arr[k].1).getD _=_;rw [e2];rfl
 have q:=hs i j (Nat.le_of_lt hij) hj';rw [kk i hi',kk j hj'] at q;have q':decide (setKey (numK arr[j])<setKey (numK arr[i]))=false:=q;have q3:=of_decide_eq_false q';rw [List.getElem_map,List.getElem_map,Array.getElem_toList,Array.getElem_toList];omega
end
section
open PySem PyProof.Rows L2
open RgCase (rowBefore setBefore numbersIn)
section
variable {X:Cx}{pins:List (Addr×Obj)}{σ:L2.St}{H:Hp}{s:Shared}{h':Heap}
theorem inv_adopt {a:Addr}{o:HO}{t':Nat}(I:Inv X pins σ H s)(fa:FpOk X pins H a)(k:∀ b u,b≠a→s.heap.get? b=some u→h'.get? b=some u)(new:ObjOk X.prog X.w (upd H a o) h' a o):
  Inv X pins σ (upd H a o) {s with heap:=h',toks:=t'}:=by
 have hn:H a=none:=fa.1;have nin:∀ b,b∉[a]→b≠a:=fun b hb z=>hb (by simp [z])
 refine I.step (g':=s.gens) (d':=s.drawn) (ch:=[a]) (fun b hb=>?_) (fun b u _ _ hc e _=>k b u (nin b hc) e) (fun b u _ _ hc e _=>⟨u.slots,k b u (nin b hc) e⟩)
  (fun b u hc e n=>by rw [zac (nin b hc)];exact n) (fun b u hc e=>⟨u,k b u (nin b hc) e⟩) (fun b xs e=>by rw [zac (zag e hn)];exact e) (fun b u v e=>by rw [zac (zag e hn)];exact e)
  (fun b ps e=>⟨#[],by rw [zac (zag e hn),e];simp⟩) (fun m hm=>?_) (fun b u e=>?_) I.bare
 ·have z:b=a:=by simpa using hb
  subst z;exact ⟨fa.2.2.2.1,fa.2.1,fa.2.2.2.2.1,fa.2.2.2.2.2⟩
 ·obtain ⟨u,es,ep,ho,r⟩:=hm;exact ⟨u,es,ep,k _ u (Ne.symm fa.2.1) ho,r⟩
 ·by_cases hb:b=a
  ·subst hb;rw [zaa] at e;cases e;exact new
  ·rw [zac hb] at e;refine (I.hok b u e).stay (fun c v hc q=>k c v ?_ q) (fun c q=>by rw [zac (zag q hn)];exact q) fun c xs q=>by rw [zac (zag q hn)];exact q
   rcases hc with z | z
   ·rw [z];exact hb
   ·exact zag z hn
theorem inv_at (I:Inv X pins σ H s)(A':Around)(h1:A'.handled=X.A.handled)(h2:A'.frames=X.A.frames):Inv {X with A:=A'} pins σ H s:=
 have ok:=I.ok;⟨⟨ok.mod,ok.kind,ok.glob,ok.blt,ok.above,ok.inj,ok.has,ok.cab,fun z=>h1.trans (ok.hd z),h2.trans ok.frames,ok.stk,ok.exf,ok.bs,ok.bsz,ok.noex,ok.exfs,ok.funs,ok.frf⟩,I.os,I.bare,I.base,I.loc,I.cell,I.free,I.freeC,I.pin,I.hok,I.len⟩
theorem fp_mono {H1:Hp}{b:Addr}(f:FpOk X pins H b)(h:H1 b=none):FpOk X pins H1 b:=⟨h,f.2⟩
end
section
variable {X:Cx}{pins:List (Addr×Obj)}{σ:L2.St}{H:Hp}{s:Shared}{a kS:Addr}{e e1:Nat}{bs:List Nat}{ks vs:List Value}{P:PySem.Fin→Shared→Prop}{E:Value→Shared→Prop}
def SrtEnd (X:Cx)(pins:List (Addr×Obj))(σ:L2.St)(H:Hp)(a:Addr)(bs:List Nat)(P:PySem.Fin→Shared→Prop):Prop:=
 ∀ s' H' l,Inv X pins σ H' s'→H' a=some (.lst (natV l))→Same H H'→l.Perm bs→l.Pairwise (fun x y=>setKey x≤setKey y)→P (.done (.ret .none)) s'
theorem srt_tail {st:SortSt}{l:List Nat}{out:List Value}(I:Inv X pins σ H s)(fk:FpOk X pins H kS)(fa:FpOk X pins H a)(hka:kS≠a)(hk:s.heap.get? kS=some (seqObj "list" ks.toArray e))(ha:s.heap.get? a=some (seqObj "list" #[] e1))(hz:ks.length≤255)(hz2:out.length≤255)(ho:((arrOf st).map (·.2)).toList=out)(hf:failedOf st=none)(hl:Vals (natV l) out)(h:∀ s' H',Inv X pins σ H' s'→H' a=some (.lst (natV l))→Same H H'→P (.done (.ret .none)) s'):
  wpAny (model X.prog X.w) X.A (ksk_tail a false e1 (.ref kS) st) P E s:=by
 have sl:sizeLine=2^24:=sizeLine_eq;have oa:((arrOf st).map (·.2))=out.toArray:=by rw [←ho,Array.toArray_toList]
 have hlen:(natV l).length=out.length:=hl.length;have k1:∀ b u,b≠kS→s.heap.get? b=some u→(s.heap.update kS (Obj.mapSeq fun _=>(#[]:Array Value))).get? b=some u:=fun b u hb q=>(Heap.get?_update_ne _ _ _ _ hb).trans q;have I1:Inv X pins σ H {s with heap:=s.heap.update kS (Obj.mapSeq fun _=>(#[]:Array Value))}:=I.turned (t':=s.toks) k1 fk.1 fk.2.1 fk.2.2.2.1 fk.2.2.2.2.1 fk.2.2.2.2.2;have ha1:=k1 a _ hka.symm ha;have k2:∀ b u,b≠a→(s.heap.update kS (Obj.mapSeq fun _=>(#[]:Array Value))).get? b=some u→((s.heap.update kS (Obj.mapSeq fun _=>(#[]:Array Value))).update a (Obj.mapSeq fun _=>out.toArray)).get? b=some u:=fun b u hb q=>(Heap.get?_update_ne _ _ _ _ hb).trans q;have I2:=inv_adopt (o:=.lst (natV l)) (t':=s.toks) I1 fa k2 ⟨by rw [hlen,sl];omega,out,_,hl,get?_update_seq ha1 fun _=>out.toArray⟩
 unfold ksk_tail;try dsimp only
 rw [oa];refine wpAny_bind (listUpdate_at hk rfl ?_ (by rw [List.size_toArray,sl];omega) (Nat.zero_le _))
 refine wpAny_bind (wpAny_letGo (wpAny_bind (seqEpoch_at ha1 rfl (wpAny_bind (listUpdate_at ha1 rfl ?_ (Nat.zero_le _) ?_)))))
 ·rw [hf];simp only [bne_self_eq_false,Bool.false_eq_true,if_false];exact wpAny_pure (h _ _ I2 zaa (Same.new fa.1))
 ·show (if false=true then out.toArray.reverse else out.toArray).size≤_
  rw [if_neg Bool.false_ne_true,List.size_toArray,sl];omega
theorem srt_end (I:Inv X pins σ H s)(hu:X.A.units<cLine)(fk:FpOk X pins H kS)(fa:FpOk X pins H a)(hka:kS≠a)(hk:s.heap.get? kS=some (seqObj "list" ks.toArray e))(ha:s.heap.get? a=some (seqObj "list" #[] e1))(hb:bs.length≤255)(hks:Paired (fun b v=>KeyAt H v b) bs ks)(hv:Vals (natV bs) vs)(h:SrtEnd X pins σ H a bs P):wpAny (model X.prog X.w) X.A (ksk_end a false vs.toArray e1 (.ref kS) ks.toArray) P E s:=by
 have hkl:bs.length=ks.length:=Paired.length hks;have hvl:bs.length=vs.length:=by
  rw [←hv.length];exact (List.length_map _).symm
 have hzs:(ks.toArray.zip vs.toArray).size=bs.length:=by rw [Array.size_zip,List.size_toArray,List.size_toArray,←hkl,←hvl,Nat.min_self]
 obtain ⟨rk,hr,hrk⟩:=rk_ex H;have fin:∀ st:SortSt,(arrOf st).Perm (ks.toArray.zip vs.toArray)→failedOf st=none→SortedToK (rkKind rk) (arrOf st) (arrOf st).size→wpAny (model X.prog X.w) X.A (ksk_tail a false e1 (.ref kS) st) P E s:=fun st q1 q2 q3=>by
  obtain ⟨l,l1,l2,l3⟩:=zvw hks hv hrk q1 q3;have hlen:(natV l).length=((arrOf st).map (·.2)).toList.length:=l3.length;refine srt_tail (l:=l) I fk fa hka hk ha (by omega) ?_ rfl q2 l3 fun s' H' I' h1 h2=>h s' H' l I' h1 h2 l1 l2
  rw [←hlen];have e1:=l1.length_eq;have e2:(natV l).length=l.length:=List.length_map _;omega
 unfold ksk_end;try dsimp only
 simp only [Bool.false_eq_true,if_false];by_cases h2:vs.toArray.size<2
 ·rw [if_pos h2,if_pos h2];refine wpAny_bind (wpAny_pure ?_);rw [StateT.run_pure];refine wpAny_bind (wpAny_pure (fin _ (Array.Perm.refl _) rfl ?_));intro i j hij hj;have hj2:j<(ks.toArray.zip vs.toArray).size:=hj;rw [List.size_toArray] at h2;have:i=j:=by omega
  subst this;exact KeyOrd.kle_refl _
 ·rw [if_neg h2,if_neg h2];rw [List.size_toArray] at h2;obtain ⟨fs,hfs,hint⟩:∃ fs,PySem.W.KatTups s.heap ks fs∧fs.length=ks.length∧∀ v∈fs,∃ n t,v=Value.int n t:=by
   have:∀ {bs:List Nat} {ks:List Value},Paired (fun b v=>KeyAt H v b) bs ks→∃ fs,PySem.W.KatTups s.heap ks fs∧fs.length=ks.length∧∀ v∈fs,∃ n t,v=Value.int n t:=by
    intro bs ks hp;induction hp with
    | nil=>exact ⟨[],.nil,rfl,fun v hv=>(nomatch hv)⟩
    | cons h1 _ ih=>
     obtain ⟨fs,q1,q2,q3⟩:=ih;obtain ⟨t,l,rfl,g1,_⟩:=h1;obtain ⟨_,its,vx,ox,gx,cx,nx,dx⟩:=I.hok t _ g1;obtain ⟨u,rfl⟩:=zsz vx;refine ⟨_::fs,.cons gx cx dx rfl q1,by rw [List.length_cons,List.length_cons,q2],fun v hv=>?_⟩
     rcases List.mem_cons.mp hv with rfl | hv
     ·exact ⟨_,_,rfl⟩
     ·exact q3 v hv
   exact this hks
  refine wpAny_bind (PySem.W.kat_kind (T:=.type "int") hfs (by omega) (fun v hv=>?_) rfl ?_)
  ·obtain ⟨n,t,rfl⟩:=hint.2 v hv;exact PySem.W.Looks.of_pure rfl
  ·rw [show (Value.type "int" != Value.type "tuple")=true by decide]
   refine wpAny_bind (wpAny_mono (rk_sort (a₀:=ks.toArray.zip vs.toArray) (st:=SortSt.mk' (tuples' true) (ks.toArray.zip vs.toArray) #[] 7 none)
    (Q:=fun _ st'=>(arrOf st').Perm (ks.toArray.zip vs.toArray)∧failedOf st'=none∧SortedToK (rkKind rk) (arrOf st') (ks.toArray.zip vs.toArray).size)
    (rk_lt hr I.hok hu) (fun x k hx=>?_) (fun p hp=>?_) (Array.Perm.refl _) rfl rfl rfl (Stable.refl _) (by omega) fun st' a1 a2 a3=>⟨a1,a2,a3⟩) ?_ fun _ _ e=>e)
   ·obtain ⟨b,l,_,g1,_⟩:=hr x k hx;exact (I.hok x _ g1).lt
   ·rw [ksk_zip,List.toList_toArray] at hp;obtain ⟨t,l,e,_⟩:=id ((zk2 hks hv).1 p hp).1;refine ⟨setKey (numK p),?_⟩;have g:=((zk2 hks hv).1 p hp).1;rw [e] at g ⊢;exact hrk t _ g
   ·rintro ⟨⟨⟩,st'⟩ s' ⟨rfl,q1,q2,q3⟩;exact fin st' q1 q2 (by rw [q1.size_eq];exact q3)
end
end
section
open PySem PyProof.Rows L2
open RgCase (rowBefore setBefore numbersIn)
section
variable {X:Cx}{pins:List (Addr×Obj)}{σ:L2.St}{H:Hp}{s:Shared}{a kS f:Addr}{fd:FuncData}{e1:Nat}{bs:List Nat}{vs:List Value}{P:PySem.Fin→Shared→Prop}{E:Value→Shared→Prop}
theorem srt_rest (F:FnOk X.prog X.w X.K X.mg X.base CX0 2 f fd ["bits"] zd2)(hr:Room 2 X.A)(hbd:Binds X.K fd ["bits"] [])(hx:∀ e s',¬ X.xe e s')(I:Inv X pins σ H s)(fk:FpOk X pins H kS)(fa:FpOk X pins H a)(hka:kS≠a)(hk:s.heap.get? kS=some (seqObj "list" #[] 0))(ha:s.heap.get? a=some (seqObj "list" #[] e1))(hb:bs.length≤255)(hb2:∀ b∈bs,b<256)(hv:Vals (natV bs) vs)(h:SrtEnd X pins σ H a bs P):wpAny (model X.prog X.w) X.A (ksk_rest a (.ref f) false vs.toArray e1 (.ref kS)) P E s:=by
 have sl:sizeLine=2^24:=sizeLine_eq;have hvl:bs.length=vs.length:=by
  rw [←hv.length];exact (List.length_map _).symm
 unfold ksk_rest;refine wpAny_bind (wpAny_rule ?_);rw [List.forIn_toArray];refine wpAny_bind (ksk_fold (fun i s'=>∃ H' ks e,Inv X pins σ H' s'∧Same H H'∧FpOk X pins H' kS∧FpOk X pins H' a∧s'.heap.get? kS=some (seqObj "list" (List.toArray ks) e)∧
  s'.heap.get? a=some (seqObj "list" #[] e1)∧Paired (fun b v=>KeyAt H' v b) (bs.take i) ks) vs 0 s ⟨H,[],0,I,Same.refl H,fk,fa,hk,ha,by rw [List.take_zero];exact .nil⟩ ?step ?done)
 case step=>
  rintro j x s' hxj ⟨H',ks,e,I',S',fk',fa',hk',ha',hks⟩;rw [Nat.zero_add] at hks ⊢;have hj:j<vs.length:=(List.getElem?_eq_some_iff.mp hxj).1;obtain ⟨b,hbj⟩:∃ b,bs[j]? = some b:=⟨_,List.getElem?_eq_getElem (by omega)⟩
  have hbm:b∈bs:=List.mem_of_getElem? hbj;have hnj:(natV bs)[j]? = some (V.int (b:Nat)):=by
   unfold natV;rw [List.getElem?_map,hbj];rfl
  obtain ⟨u,hu,t,rfl⟩:=zcu hv hnj;rw [hxj] at hu;cases hu;have hkl:(bs.take j).length=ks.length:=Paired.length hks;rw [List.length_take] at hkl;have hf2:∀ c∈[kS,a],FpOk X pins H' c:=fun c hc=>by
   rcases List.mem_cons.mp hc with rfl | hc
   ·exact fk'
   ·rw [List.mem_singleton.mp hc];exact fa'
  have hob:∀ c∈[kS,a],∃ o,s'.heap.get? c=some o∧∀ v,o.data≠.cell v:=fun c hc=>by
   rcases List.mem_cons.mp hc with rfl | hc
   ·exact ⟨_,hk',fun v z=>nomatch z⟩
   ·rw [List.mem_singleton.mp hc];exact ⟨_,ha',fun v z=>nomatch z⟩
  have Ip:=I'.pinned hf2 hob;refine wpAny_bind (wpAny_attempt (wpAny_mono (zut (Q:=fun v H2=>KeyAt H2 (match v with | .ref t=>.ref t | _=>.none) b∧Same H' H2) F hr hbd .nil (pass0 (X:=X)) Ip (us:=[.int (b:Nat) t]) (vs:=[.int (b:Nat)]) (.cons ⟨t,rfl⟩ .nil)
   ⟨b,rfl,hb2 b hbm,fun H2 t l g1 g2 _ _ S2=>⟨⟨t,l,rfl,g1,g2⟩,S2⟩⟩) (fun v s2 hv2=>?_) fun e' s2 he=>absurd he (hx _ _)))
  obtain ⟨y,H2,I2,ry,⟨kt,kl,ek,g1,g2⟩,S2⟩:=hv2;obtain rfl:y=.ref kt:=by
   cases y <;> first | (cases ek;rfl) | (exact nomatch ek)
  obtain rfl:v=.ref kt:=ry;have pk:=I2.pin (kS,_) (List.mem_append_right _ (List.mem_append_right _ (zfi (.head _) hk')));have pa:=I2.pin (a,_) (List.mem_append_right _ (List.mem_append_right _ (zfi (.tail _ (.head _)) ha')));have I3:=I2.unpinned;have fk3:=fp_mono fk' pk.2.1;have fa3:=fp_mono fa' pa.2.1;have k1:∀ c o,c≠kS→s2.heap.get? c=some o→(s2.heap.update kS (Obj.mapSeq (·.push (.ref kt)))).get? c=some o:=fun c o hc q=>(Heap.get?_update_ne _ _ _ _ hc).trans q;obtain ⟨c2,hc2⟩:∃ c2,(s2.heap.update kS (Obj.mapSeq (·.push (.ref kt)))).get? kS=some (seqObj "list" (ks++[Value.ref kt]).toArray c2):=by
   rw [show (ks++[Value.ref kt]).toArray=ks.toArray.push (.ref kt) by simp]
   exact ⟨_,get?_update_seq pk.1 (·.push (.ref kt))⟩
  try dsimp only
  refine wpAny_bind (listUpdate_at pk.1 rfl ?_ (by rw [List.size_toArray,sl];omega) (Nat.le_trans (Nat.le_of_eq (Array.size_push ..)) (by rw [List.size_toArray,sl];omega)))
  refine wpAny_pure ⟨rfl,H2,ks++[.ref kt],c2,I3.turned (t':=s2.toks) k1 fk3.1 fk3.2.1 fk3.2.2.2.1 fk3.2.2.2.2.1 fk3.2.2.2.2.2,S'.trans S2,fk3,fa3,hc2,k1 a _ hka.symm pa.1,?_⟩
  ·rw [List.take_add_one,hbj];exact (Paired.mapP hks fun b v q=>q.mono S2).snoc ⟨kt,kl,rfl,g1,g2⟩
 case done=>
  rintro s' ⟨H',ks,e,I',S',fk',fa',hk',ha',hks⟩;rw [Nat.zero_add,List.take_of_length_le (by omega)] at hks
  try dsimp only
  refine wpAny_bind (listItems_at hk' rfl ?_);exact srt_end I' hr.units0 fk' fa' hka hk' ha' hb hks hv fun s3 H3 l I3 h1 h2 h3 h4=>h s3 H3 l I3 h1 (S'.trans h2) h3 h4
theorem srt_tree {n:Nat}(F:FnOk X.prog X.w X.K X.mg X.base CX0 2 f fd ["bits"] zd2)(hr:Room 2 X.A)(hbd:Binds X.K fd ["bits"] [])(hx:∀ e s',¬ X.xe e s')(I:Inv X pins σ H s)(fa:FpOk X pins H a)(ha:s.heap.get? a=some (seqObj "list" vs.toArray n))(hb:bs.length≤255)(hb2:∀ b∈bs,b<256)(hv:Vals (natV bs) vs)(h:SrtEnd X pins σ H a bs P):wpAny (model X.prog X.w) X.A (ksk_tree a (.ref f) false) P E s:=by
 have sl:sizeLine=2^24:=sizeLine_eq;have hvl:bs.length=vs.length:=by
  rw [←hv.length];exact (List.length_map _).symm
 have k1:∀ b o,b≠a→s.heap.get? b=some o→(s.heap.update a (Obj.mapSeq fun _=>(#[]:Array Value))).get? b=some o:=fun b o hb q=>(Heap.get?_update_ne _ _ _ _ hb).trans q;have I1:Inv X pins σ H {s with heap:=s.heap.update a (Obj.mapSeq fun _=>(#[]:Array Value))}:=I.turned (t':=s.toks) k1 fa.1 fa.2.1 fa.2.2.2.1 fa.2.2.2.2.1 fa.2.2.2.2.2;have ha1:=get?_update_seq ha fun _=>(#[]:Array Value);unfold ksk_tree;refine wpAny_bind (listItems_at ha rfl ?_);refine wpAny_bind (listUpdate_at ha rfl ?_ (by rw [List.size_toArray,sl];omega) (Nat.zero_le _))
 refine wpAny_bind (seqEpoch_at ha1 rfl ?_);refine wpAny_bind (wpAny_newTuple ?_ (by show vs.length≤_;rw [sl];omega))
 refine wpAny_bind (wpAny_newList ?_ (Nat.zero_le _));refine wpAny_holding ?_;have I2:=I1.kept (t':=s.toks) (h':=(s.heap.update a (Obj.mapSeq fun _=>(#[]:Array Value))).push (seqObj "tuple" vs.toArray 0)) fun b o q=>Heap.get?_push_of_some _ q;have I3:=I2.kept (t':=s.toks) (h':=((s.heap.update a (Obj.mapSeq fun _=>(#[]:Array Value))).push (seqObj "tuple" vs.toArray 0)).push (seqObj "list" #[] 0)) fun b o q=>Heap.get?_push_of_some _ q;have ha3:(((s.heap.update a (Obj.mapSeq fun _=>(#[]:Array Value))).push (seqObj "tuple" vs.toArray 0)).push (seqObj "list" #[] 0)).get? a=some _:=Heap.get?_push_of_some _ (Heap.get?_push_of_some _ ha1);have q:((s.heap.update a (Obj.mapSeq fun _=>(#[]:Array Value))).push (seqObj "tuple" vs.toArray 0)).get? a=some _:=Heap.get?_push_of_some _ ha1;exact srt_rest F hr hbd hx I3 (I2.fpOk (Nat.le_refl _) (I2.hok.fresh (Nat.le_refl _))) fa (Nat.ne_of_gt (Heap.lt_size q)) (Heap.get?_push_size _ rfl) ha3 hb hb2 hv h
end
end
section
open PySem PySem.Spec PyProof.Rows L2
open RgCase (rowBefore setBefore numbersIn)
section
variable {prog:Program}{w:World}{A:Around}{E:Value→Shared→Prop}{s:Shared}
theorem zwr {R:Result→Shared→Prop}{r S:Addr}{a b c:Int}{t u v:Tok}{n:Nat}(hh:A.handled=none)(hr:IsRange s.heap r a b c t u v)(hs:Builtin.Range.small a b c=true)(hn:Builtin.Range.rangeSize a b c=n)(hl:n≤2^24)(hS:s.heap.get? S=some {cls:=.type "list",data:=.seq #[] 0})(h:∀ h' tk acc c',(∀ b o,b≠S→s.heap.get? b=some o→h'.get? b=some o)→h'.get? S=some {cls:=.type "list",dict:=none,data:=.seq acc c',slots:=#[]}→ItemsOf (fun i v=>∃ t,v=.int (a+i*c) t) acc n→R (.ok (.ret (.ref S))) {s with heap:=h',toks:=tk}):
  codeAny (model prog w) A (.builtin "list.__iadd__" ⟨[.ref S,.ref r],[]⟩) R s:=by
 refine codeAny_builtin F.entry_list_iadd ?_;rw [Around.under_plainId (A:=A) F.plain_list_iadd _];show wpAny _ A.in1 (Builtin.List.listExtendWith (.ref S) (.ref r) (.ref S)) _ _ _;exact wpAny_extend_range hh hr hs hn hl S (.ref S) 0 hS h
theorem zpw {Q:List Value→Shared→Prop}{r:Addr}{a b c:Int}{t u v:Tok}{n:Nat}(hh:A.handled=none)(hr:IsRange s.heap r a b c t u v)(hs:Builtin.Range.small a b c=true)(hn:Builtin.Range.rangeSize a b c=n)(hl:n≤2^24)(h:∀ h' tk acc,(∀ b o,s.heap.get? b=some o→h'.get? b=some o)→ItemsOf (fun i v=>∃ t,v=.int (a+i*c) t) acc n→Q acc.toList {s with heap:=h',toks:=tk}):wpAny (model prog w) A (collect (.ref r)) Q E s:=by
 unfold collect;refine wpAny_bind (wpAny_runValue (codeAny_builtin F.entry_proto_collect (Around.under_plainId (A:=A) F.plain_proto_collect _▸?_)));show wpAny _ A.in1 (newList [] >>= fun l=>again (.builtin "list.__iadd__" ⟨[l,.ref r],[]⟩)) _ _ s;refine wpAny_bind (wpAny_newList ?_ (Nat.zero_le _));refine wpAny_pure ⟨plainId_quiet F.plain_list_iadd _,zwr hh (Heap.get?_push_of_some _ hr) hs hn hl (Heap.get?_push_size _ rfl) fun h' tk acc c' hk hS hacc=>?_⟩;show wpAny _ A (load s.heap.objs.size >>= _) _ _ _;refine wpAny_bind (wpAny_load hS (wpAny_pure (h h' tk acc (fun b o e=>?_) hacc)));exact hk b o (Nat.ne_of_lt (Heap.lt_size e)) (Heap.get?_push_of_some _ e)
end
theorem zrc {α β:Type}{R:α→β→Prop}:∀ {l:List α} {m:List β},l.length=m.length→(∀ (i:Nat) a b,l[i]? = some a→m[i]? = some b→R a b)→Paired R l m
 | [],[],_,_=>.nil
 | [],_::_,h,_=>nomatch h
 | _::_,[],h,_=>nomatch h
 | a::l,b::m,h,k=>.cons (k 0 a b rfl rfl) (zrc (by simpa using h) fun i x y hx hy=>k (i+1) x y hx hy)
theorem zv6 {acc:Array Value}{n:Nat}(h:ItemsOf (fun i v=>∃ t,v=.int (1+(i:Nat)*1) t) acc n):Vals (natV (List.range' 1 n)) acc.toList:=by
 refine zrc ?_ fun i a b ha hb=>?_
 ·unfold natV;rw [List.length_map,List.length_range',Array.length_toList,h.1]
 ·unfold natV at ha;rw [List.getElem?_map] at ha;have hb':acc[i]? = some b:=by rw [←Array.getElem?_toList];exact hb
  obtain ⟨t,rfl⟩:=h.2 i b hb';cases e:(List.range' 1 n)[i]? with
  | none=>rw [e] at ha;cases ha
  | some x=>
   rw [e] at ha;have ha':V.int (x:Nat)=a:=Option.some.inj ha;subst ha';obtain ⟨hi,e2⟩:=List.getElem?_eq_some_iff.mp e;rw [List.getElem_range'] at e2;refine ⟨t,?_⟩;rw [show ((x:Nat):Int)=1+(i:Nat)*1 by omega]
theorem inv_back2 {X:Cx}{pins:List (Addr×Obj)}{σ:L2.St}{H:Hp}{s:Shared}{A':Around}{E:Value→Shared→Prop}(I:Inv {X with A:=A',xe:=E} pins σ H s)(ok:X.Ok):Inv X pins σ H s:=
 ⟨ok,I.os,I.bare,I.base,I.loc,I.cell,I.free,I.freeC,I.pin,I.hok,I.len⟩
def tRng (ta:TA):TE:=fun σ H Q=>ta σ H fun vs H1=>∃ i j:Int,vs=[.int i,.int j]∧∀ p,H1 p=none→Q (.ref p) (upd H1 p (.rng i j))
theorem pe_rangeV {X:Cx}{a b:Expr}{ta:TA}{p pos:Pos}(hg:Gl X "range")(hm:X.mg "range"=none)(ha:PA X [a,b] ta)(hs:starEach [a,b] X.env=[(false,eval a X.env),(false,eval b X.env)]:=by rfl)(hs2:starEach [b] X.env=[(false,eval b X.env)]:=by rfl):
  PE X (.Call (.Name "range" p) [a,b] [] pos) (tRng ta):=by
 intro pins s σ H Q I h;refine Call_ (zj6 I hg hm boot_range (PyProof.Rows.callWith_type1 (thn (ha pos pins s σ H _ I h) fun us s1 ⟨vs,H1,I1,r1,q1⟩=>?_) (by rw [hs,hs2]) (by rw [hs2];rfl)))
 obtain ⟨i,j,e,q⟩:=q1;subst e;cases r1 with
 | cons r rr=>
  cases rr with
  | cons r' rr=>
   cases rr;obtain ⟨t,rfl⟩:=r;obtain ⟨t',rfl⟩:=r';refine call_range_2 ⟨.ref s1.heap.objs.size,upd H1 s1.heap.objs.size (.rng i j),I1.laid (fun b u e=>Heap.get?_push_of_some _ e) (Nat.le_refl _) ?_,rfl,q _ (I1.hok.fresh (Nat.le_refl _))⟩;exact ⟨t,t',_,Heap.get?_push_size _ rfl⟩
def tSortR (ta:TA):TE:=fun σ H Q=>tCons (tRng ta) tNil σ H fun xs H1=>∃ (r:Addr) (n:Nat),xs=[.ref r]∧H1 r=some (.rng 1 ((n:Int)+1))∧n≤255∧
 ∀ H' a l,H' a=some (.lst (natV l))→l.Perm (List.range' 1 n)→l.Pairwise (fun x y=>setKey x≤setKey y)→H1 a=none→Same H1 H'→Q (.ref a) H'
theorem pe_sortR {X:Cx}{x:Str}{e e':Expr}{ta:TA}{p p2 p3 pos pos2 kpos:Pos}(O:Own X.prog X.w X.K X.mg X.base x 2 ["bits"] zd2)(hr:Room 4 X.A)(hm:X.mg "sorted"=none)(hm2:X.mg "range"=none)(ha:PA X [e,e'] ta)(hg:Gl X "sorted":=by rfl)(hg2:Gl X "range":=by rfl)(hg3:Gl X x:=by rfl)(hd3:(x==("__debug__":Str))=false:=by decide)(hs:starEach [e,e'] X.env=[(false,eval e X.env),(false,eval e' X.env)]:=by rfl)(hs2:starEach [e'] X.env=[(false,eval e' X.env)]:=by rfl)(he:∀ z,backTo pos (starEach [.Call (.Name "range" p2) [e,e'] [] pos2] X.env)=z→z=(false,eval (.Call (.Name "range" p2) [e,e'] [] pos2) X.env)::backTo pos (starEach [] X.env):=by intro z h;exact h.symm)(hpl:(backTo pos (starEach [.Call (.Name "range" p2) [e,e'] [] pos2] X.env)).any (·.1)=false:=by rfl):
  PE X (.Call (.Name "sorted" p) [.Call (.Name "range" p2) [e,e'] [] pos2] [⟨some (Str.ofString "key"),.Name x p3,kpos⟩] pos) (tSortR ta):=by
 obtain ⟨f,fd,F,hmf,hkf,hbd⟩:=O.ex;intro pins s σ H Q I h;have hpa:PA X [.Call (.Name "range" p2) [e,e'] [] pos2] (tCons (tRng ta) tNil):=zab (pe_rangeV hg2 hm2 ha hs hs2) zaf;have hpk:PK X [⟨some (Str.ofString "key"),.Name x p3,kpos⟩] (tCons (tC (.ref f)) tNil):=pk_cons (zov hg3 hmf (v:=.ref f) rfl hd3) pk_nil;refine wpAny_Call_Name_kw (zj6 I hg hm (u:=.builtin "sorted") rfl ?_);refine callWith_kw (thn (hpa pos pins s σ H _ I h) fun us s1 ⟨xs,H1,I1,r1,q1⟩=>thn (hpk pos pins s1 σ H1 (fun ys H2=>ys=[.ref f]∧H2=H1) I1 ⟨rfl,rfl⟩) fun ws s2 ⟨ys,H2,I2,r2,ey,eH⟩=>?_) (he _ rfl) hpl;subst ey eH;obtain ⟨r,n,ex,hrn,hn,q⟩:=q1;subst ex;rw [Vals.ref1 r1,Vals.ref1 r2];show wpAny (model X.prog X.w) X.A (call (.builtin "sorted") [.ref r] [(Str.ofString "key",.ref f)]) _ _ s2;obtain ⟨t,u,v,hob⟩:=I2.hok r _ hrn;refine call_function_entry_kw kind_sorted plain_sorted entry_sorted (ksk_s1 _ _) ?_;unfold Builtin.«sorted»;refine wpAny_bind (m:=checkCount "sorted" 1 1 _) (wpAny_pure ?_);have hsz:Builtin.Range.rangeSize 1 ((n:Int)+1) 1=n:=by
  rw [rangeSize_one];split <;> omega
 refine wpAny_bind (zpw (n:=n) hr.hd hob (small_one (by omega) (by omega) (by omega) (by omega)) hsz (by omega) fun h3 tk acc hk3 hacc=>?_)
 have sl:sizeLine=2^24:=sizeLine_eq;have hal:acc.toList.length=n:=by rw [Array.length_toList];exact hacc.1
 refine wpAny_bind (wpAny_newList ?_ (by rw [hal,sl];omega))
 have I3:=I2.kept (t':=tk) hk3;have I4:=I3.kept (t':=tk) (h':=h3.push {cls:=.type "list",data:=.seq acc.toList.toArray}) fun b o e=>Heap.get?_push_of_some _ e;have hoL:(h3.push {cls:=.type "list",data:=.seq acc.toList.toArray}).get? h3.objs.size=some (seqObj "list" acc.toList.toArray 0):=Heap.get?_push_size _ rfl;have fa:FpOk X pins H2 h3.objs.size:=I3.fpOk (Nat.le_refl _) (I3.hok.fresh (Nat.le_refl _));have I5:=(inv_at I4 X.A.in1.in1 rfl rfl).wish fun _ _=>False;refine wpAny_bind (wpAny_holding (wpAny_call_entry_kw slot_list_sort ⟨_,hoL,rfl⟩ entry_list_sort ?body (ksk_l1 _ _)))
 case body=>
  show wpAny (model X.prog X.w) X.A.in1.in1 (Builtin.«list.sort» ⟨[.ref h3.objs.size],[(Str.ofString "key",.ref f)]⟩) _ _ _;rw [ksk_t1];refine srt_tree (X:={X with A:=X.A.in1.in1,xe:=fun _ _=>False}) (bs:=List.range' 1 n) F hr.in1.in1 hbd (fun _ _ z=>z) I5 fa hoL (by rw [List.length_range'];exact hn) (fun b hb=>?_) (zv6 hacc) fun s' H' l I' h1 h2 h3' h4=>⟨_,rfl,?_⟩
  ·have:=List.mem_range'_1.mp hb;omega
  ·exact wpAny_pure ⟨_,rfl,.ref _,H',inv_back2 I' I2.ok,rfl,q H' _ l h1 h3' h4 fa.1 h2⟩
section
variable {P:Program}{w:World}{K:PySem.W.Frag}{mg:Str→Option Value}{base:Heap}{ad:Ads}{cd:Cds}
abbrev zg3:Stmt:=top 39
theorem zvz:FnScope ["witnesses"] ["witnesses"] (defScope zg3):=⟨rfl,rfl,rfl,by decide +kernel,rfl,by decide +kernel,by decide +kernel⟩
theorem zw7:BindOk "sets_of" "sets_of" zg3 ["witnesses"]:=fun _ _ _ _ _ _=>ls1 fun _=>rfl
theorem zv9 (D:DefAt K mg "sets_of" zg3)(T:TxtR mg)(O_rank_of:Own P w K mg base "rank_of" 2 ["bits"] zd2):Own P w K mg base "sets_of" 6 ["witnesses"] zjc:=by
 refine za5 D zvz zw7 (fun vs H Q E h=>?_) (fun f cdv A outer s H vs Q E hr h=>?_)
 ·obtain ⟨n,rfl,_⟩:=h;rfl
 ·obtain ⟨n,rfl,hn,k⟩:=h;refine ⟨_,(zae (zak (pe_sortR O_rank_of (hr.mono (by decide)) T.b_sorted T.b_range (zab zan (zab (zc6 op_shl zan (pv 0)) zaf))))),?_⟩
  show tSortR _ _ _ _;unfold tSortR tRng;walk_at "rd2"
  have hp:2^n≤256:=Nat.pow_le_pow_right (n:=2) (j:=8) (by omega) hn
  have hp1:1≤2^n:=Nat.one_le_two_pow;refine ⟨⟨Int.natCast_nonneg n,by omega,by decide⟩,fun p hpn=>⟨2^n - 1,?_,by omega,fun H' a l h1 h2 h3 h4 h5=>k H' a l h1 h2 h3 ((Same.new hpn).free h4) ((Same.new hpn).trans h5)⟩⟩
  rw [zaa,Int.toNat_natCast,Int.one_mul];congr 2
  have e:((2^n:Nat):Int)=(2:Int)^n:=by simp
  omega
end
end
section
open PySem PySem.Spec PyProof.Rows L2
structure AllAt (ad:Ads)(cd:Cds)(w:World)(K:PySem.W.Frag)(mg:Str→Option Value):Prop where
 txtF:TxtF ad w K mg
 txtR:TxtR mg
 cLine:ClsLine K ad.cLine
 cClaim:ClsClaim K cd.cClaim
 cRule:ClsRule K cd.cRule
 cBoat:ClsBoat K cd.cBoat
 cCase:ClsCase K cd.cCase
 cProof:ClsProof K cd.cProof
 cDesk:ClsDesk K cd.cDesk
 d_wanted_by:DefAt K mg "wanted_by" zeb
 d_is_name:DefAt K mg "is_name" zg5
 d_is_claim_name:DefAt K mg "is_claim_name" zb6
 d_number_from:DefAt K mg "number_from" zcy
 d_read_conditions:DefAt K mg "read_conditions" zbn
 k_Line:ClassAt K mg "Line" ad.cLine "Line.__init__" zb9
 d_fill_part:DefAt K mg "fill_part" zee
 d_read_line:DefAt K mg "read_line" zec
 d_signs_of:DefAt K mg "signs_of" zd3
 d_fact:DefAt K mg "fact" zqz
 k_Claim:ClassAt K mg "Claim" cd.cClaim "Claim.__init__" zb0
 k_Rule:ClassAt K mg "Rule" cd.cRule "Rule.__init__" zb8
 k_Boat:ClassAt K mg "Boat" cd.cBoat "Boat.__init__" zcc
 k_Case:ClassAt K mg "Case" cd.cCase "Case.__init__" zcb
 k_Proof:ClassAt K mg "Proof" cd.cProof "Proof.__init__" zbw
 d_claim_of:DefAt K mg "claim_of" zfg
 d_can_stand:DefAt K mg "can_stand" zef
 d_clashes:DefAt K mg "clashes" zg6
 d_is_too_much:DefAt K mg "is_too_much" zcz
 d_what_is_wrong:DefAt K mg "what_is_wrong" zb5
 d_enter_claim:DefAt K mg "enter_claim" zc1
 d_enter_witness:DefAt K mg "enter_witness" zb7
 d_enter_words:DefAt K mg "enter_words" zc0
 d_needed_by:DefAt K mg "needed_by" zed
 d_enter_rule:DefAt K mg "enter_rule" zdr
 d_enter_boat:DefAt K mg "enter_boat" zdt
 d_enter_line:DefAt K mg "enter_line" zds
 d_enter_text:DefAt K mg "enter_text" zdq
 d_all_hold:DefAt K mg "all_hold" zfh
 d_going_rules:DefAt K mg "going_rules" zch
 d_verdict_of_rules:DefAt K mg "verdict_of_rules" za8
 d_verdict_of_witnesses:DefAt K mg "verdict_of_witnesses" za0
 d_settle_claim:DefAt K mg "settle_claim" zcm
 d_settle:DefAt K mg "settle" zij
 d_penalty_of:DefAt K mg "penalty_of" zcs
 d_has_redress:DefAt K mg "has_redress" zcg
 d_members_of:DefAt K mg "members_of" zct
 d_rank_of:DefAt K mg "rank_of" zg4
 m_proof_without:MethAt K cd.cDesk "proof_without" "Desk.proof_without" zba
 m_has_wrong_bit:MethAt K cd.cDesk "has_wrong_bit" "Desk.has_wrong_bit" zbb
 m_tell_text:MethAt K cd.cDesk "tell_text" "Desk.tell_text" zby
 m_tell_sizes:MethAt K cd.cDesk "tell_sizes" "Desk.tell_sizes" zbo
 m_tell_claim:MethAt K cd.cDesk "tell_claim" "Desk.tell_claim" zbp
 m_tell_rules:MethAt K cd.cDesk "tell_rules" "Desk.tell_rules" zbg
 m_tell_witness:MethAt K cd.cDesk "tell_witness" "Desk.tell_witness" za1
 m_tell_boat:MethAt K cd.cDesk "tell_boat" "Desk.tell_boat" zbz
 k_Desk:ClassAt K mg "Desk" cd.cDesk "Desk.__init__" zca
 m_take:MethAt K cd.cDesk "take" "Desk.take" zei
 m_more:MethAt K cd.cDesk "more" "Desk.more" zej
 d_end_of_call:DefAt K mg "end_of_call" zc2
 d_sets_of:DefAt K mg "sets_of" zg3
 m_tell_turn:MethAt K cd.cDesk "tell_turn" "Desk.tell_turn" zbx
 d_answer_of:DefAt K mg "answer_of" zeh
theorem all_fn {P:Program}{w:World}{K:PySem.W.Frag}{mg:Str→Option Value}{base:Heap}{ad:Ads}{cd:Cds}{f:Addr}{fd:FuncData}(A:AllAt ad cd w K mg)(F:Fun K "answers" "answers" zeg f fd):
  FnOk P w K mg base CX0 9 f fd ["calls"] (zhj K):=by
 have O_wanted_by:Own P w K mg base "wanted_by" 1 ["word"] zgm:=zrf A.d_wanted_by A.txtF;have O_is_name:Own P w K mg base "is_name" 1 ["word"] zff:=zwb A.d_is_name A.txtF;have O_is_claim_name:Own P w K mg base "is_claim_name" 2 ["word"] zcn:=zkr A.d_is_claim_name A.txtF O_is_name;have O_number_from:Own P w K mg base "number_from" 1 ["word","most"] ze2:=zmq A.d_number_from A.txtF;have O_read_conditions:Own P w K mg base "read_conditions" 3 ["words"] zcx:=zis A.d_read_conditions A.txtF O_wanted_by O_is_claim_name;have O_Line:OwnC P w K mg base "Line" ad.cLine 1 ["self","kind"] (zgv ad.cLine):=ok_Line A.k_Line A.cLine;have O_fill_part:Own P w K mg base "fill_part" 3 ["line","part","word"] (zgr ad.cLine):=zrl A.d_fill_part A.txtF A.cLine O_is_name O_is_claim_name O_number_from;have O_read_line:Own P w K mg base "read_line" 4 ["signs"] (zgq ad.cLine):=zrj A.d_read_line A.txtF A.cLine O_Line O_fill_part O_read_conditions;have O_signs_of:Own P w K mg base "signs_of" 1 ["numbers"] zfr:=ztn A.d_signs_of A.txtF;have O_fact:Own P w K mg base "fact" 1 ["verdict","number"] zok:=ok_fact A.d_fact;have O_Claim:OwnC P w K mg base "Claim" cd.cClaim 1 ["self"] (zfx cd):=ok_Claim A.k_Claim A.cClaim;have O_Rule:OwnC P w K mg base "Rule" cd.cRule 1 ["self","line_number","made","needed"] (zgu cd):=ok_Rule A.k_Rule A.cRule;have O_Boat:OwnC P w K mg base "Boat" cd.cBoat 1 ["self"] (zes cd):=ok_Boat A.k_Boat A.cBoat;have O_Case:OwnC P w K mg base "Case" cd.cCase 1 ["self"] (zer cd):=ok_Case A.k_Case A.cCase;have O_Proof:OwnC P w K mg base "Proof" cd.cProof 1 ["self"] (zfw cd):=ok_Proof A.k_Proof A.cProof;have O_claim_of:Own P w K mg base "claim_of" 1 ["case","line"] (zc8 ad.cLine cd):=zto A.d_claim_of A.cLine A.cCase;have O_can_stand:Own P w K mg base "can_stand" 1 ["case","line"] (zgs ad.cLine cd):=zrn A.d_can_stand A.txtR A.cLine A.cCase;have O_clashes:Own P w K mg base "clashes" 2 ["case","line"] (zjd ad.cLine cd):=zwc A.d_clashes A.txtR A.cLine A.cCase A.cClaim O_claim_of;have O_is_too_much:Own P w K mg base "is_too_much" 1 ["case","line"] (ze3 ad.cLine cd):=zmr A.d_is_too_much A.txtR A.cLine A.cCase;have O_what_is_wrong:Own P w K mg base "what_is_wrong" 3 ["case","line"] (zdw ad.cLine cd):=zkp A.d_what_is_wrong A.txtR O_can_stand O_clashes O_is_too_much;have O_enter_claim:Own P w K mg base "enter_claim" 3 ["case","name"] (ze6 cd):=zmv A.d_enter_claim A.txtR A.cCase O_Claim;have O_enter_witness:Own P w K mg base "enter_witness" 1 ["case","name","weight"] (zco cd):=zkt A.d_enter_witness A.txtR A.cCase;have O_enter_words:Own P w K mg base "enter_words" 2 ["case","line"] (ze5 ad.cLine cd):=zmu A.d_enter_words A.txtR A.cLine A.cCase A.cClaim O_claim_of O_enter_witness;have O_needed_by:Own P w K mg base "needed_by" 2 ["case","line"] (zeq ad.cLine cd):=zrk A.d_needed_by A.txtR A.cLine A.cCase O_fact;have O_enter_rule:Own P w K mg base "enter_rule" 3 ["case","line"] (zft ad.cLine cd):=zo6 A.d_enter_rule A.txtR A.cLine A.cCase A.cClaim O_claim_of O_Rule O_needed_by;have O_enter_boat:Own P w K mg base "enter_boat" 3 ["case","line"] (zfv ad.cLine cd):=zo8 A.d_enter_boat A.txtR A.cLine A.cCase A.cBoat O_Boat O_needed_by;have O_enter_line:Own P w K mg base "enter_line" 4 ["case","line"] (zfu ad.cLine cd):=zo7 A.d_enter_line A.txtR A.cLine A.cCase A.cClaim O_claim_of O_enter_claim O_enter_witness O_enter_words O_enter_rule O_enter_boat;have O_enter_text:Own P w K mg base "enter_text" 5 ["case","text"] (zfs cd):=zo5 A.d_enter_text A.txtR A.cCase O_signs_of O_read_line O_what_is_wrong O_enter_line;have O_all_hold:Own P w K mg base "all_hold" 1 ["needed","facts"] zc9:=ztp A.d_all_hold;have O_going_rules:Own P w K mg base "going_rules" 2 ["claim","facts"] (zdj cd):=zmt A.d_going_rules A.txtR A.cClaim A.cRule O_all_hold;have O_verdict_of_rules:Own P w K mg base "verdict_of_rules" 3 ["claim","facts"] (zcp cd):=zh6 A.d_verdict_of_rules A.txtR A.cRule O_going_rules;have O_verdict_of_witnesses:Own P w K mg base "verdict_of_witnesses" 1 ["case","claim","without"] (zbs cd):=zf4 A.d_verdict_of_witnesses A.txtR A.cCase A.cClaim;have O_settle_claim:Own P w K mg base "settle_claim" 4 ["case","claim","without","facts"] (zd8 cd):=zlu A.d_settle_claim A.txtR A.cClaim O_verdict_of_rules O_verdict_of_witnesses;have O_settle:Own P w K mg base "settle" 5 ["case","without"] (zlh cd):=ok_settle A.d_settle A.txtR A.cCase A.cProof O_Proof O_settle_claim O_fact;have O_penalty_of:Own P w K mg base "penalty_of" 2 ["boat","facts"] (zdy cd):=zo3 A.d_penalty_of A.txtR A.cBoat O_all_hold;have O_has_redress:Own P w K mg base "has_redress" 3 ["boat","facts"] (ze4 cd):=zms A.d_has_redress A.txtR A.cBoat O_all_hold O_penalty_of;have O_members_of:Own P w K mg base "members_of" 1 ["bits"] zdz:=zo4 A.d_members_of A.txtR;have O_rank_of:Own P w K mg base "rank_of" 2 ["bits"] zd2:=zwa A.d_rank_of A.txtR O_members_of;have O_Desk_proof_without:OwnM P w K mg base cd.cDesk "proof_without" 6 ["self","without"] (zbk cd):=zkq A.m_proof_without A.txtR A.cDesk O_settle;have O_Desk_has_wrong_bit:OwnM P w K mg base cd.cDesk "has_wrong_bit" 1 ["self","without"] (zbv cd):=zks A.m_has_wrong_bit A.txtR A.cDesk A.cCase;have O_Desk_tell_text:OwnM P w K mg base cd.cDesk "tell_text" 1 ["self"] (zgo cd):=zrh A.m_tell_text A.txtR A.cDesk;have O_Desk_tell_sizes:OwnM P w K mg base cd.cDesk "tell_sizes" 1 ["self"] (zfo cd):=zo0 A.m_tell_sizes A.txtR A.cDesk A.cCase;have O_Desk_tell_claim:OwnM P w K mg base cd.cDesk "tell_claim" 7 ["self","number","without"] (zfq cd):=zo2 A.m_tell_claim A.txtR A.cDesk A.cCase A.cProof A.cDesk.cl O_Desk_has_wrong_bit O_Desk_proof_without;have O_Desk_tell_rules:OwnM P w K mg base cd.cDesk "tell_rules" 7 ["self","number","without"] (zfp cd):=zo1 A.m_tell_rules A.txtR A.cDesk A.cCase A.cProof A.cRule A.cDesk.cl O_Desk_has_wrong_bit O_Desk_proof_without O_going_rules;have O_Desk_tell_witness:OwnM P w K mg base cd.cDesk "tell_witness" 1 ["self","number"] (zd7 cd):=zlt A.m_tell_witness A.txtR A.cDesk A.cCase;have O_Desk_tell_boat:OwnM P w K mg base cd.cDesk "tell_boat" 7 ["self","without","name"] (zgp cd):=zri A.m_tell_boat A.txtR A.cDesk A.cCase A.cProof A.cDesk.cl O_signs_of O_is_name O_Boat O_Desk_has_wrong_bit O_Desk_proof_without O_penalty_of O_has_redress;have O_Desk:OwnC P w K mg base "Desk" cd.cDesk 3 ["self"] (zgw cd):=ok_Desk A.k_Desk A.txtR A.cDesk O_Case;have O_Desk_take:OwnM P w K mg base cd.cDesk "take" 6 ["self","text"] (zoj cd):=ok_take A.m_take A.txtR A.cDesk O_Case O_enter_text;have O_Desk_more:OwnM P w K mg base cd.cDesk "more" 7 ["self","text"] (zs6 cd):=ok_more A.m_more A.txtR A.cDesk A.cDesk.cl O_Desk_take;have O_end_of_call:Own P w K mg base "end_of_call" 1 ["calls","start"] (ze7 K):=zmw A.d_end_of_call A.txtR;have O_sets_of:Own P w K mg base "sets_of" 6 ["witnesses"] zjc:=zv9 A.d_sets_of A.txtR O_rank_of;have O_Desk_tell_turn:OwnM P w K mg base cd.cDesk "tell_turn" 7 ["self","number"] (zgn cd):=zrg A.m_tell_turn A.txtR A.cDesk A.cCase A.cProof A.cDesk.cl O_Desk_proof_without O_sets_of O_members_of;have O_answer_of:Own P w K mg base "answer_of" 8 ["desk","call"] (zgt cd):=zro A.d_answer_of A.txtR A.cDesk.cl O_Desk_take O_Desk_more O_Desk_tell_text O_Desk_tell_sizes O_Desk_tell_claim O_Desk_tell_rules O_Desk_tell_boat O_Desk_tell_witness O_Desk_tell_turn;exact zwx F A.txtR O_Desk O_end_of_call O_answer_of
end
section
open PySem PySem.Spec PyProof.Rows L2
open RgCase (Bytes ascii)
section
variable {K:PySem.W.Frag}{h:Heap}{mg:Str→Option Value}{x m qual:Str}{st:Stmt}{f C a:Addr}{oc:Value}{od an:Option Addr}{osl:Array (Option Value)}{kV doc pm cdv ct:Value}
theorem za6 (X:K.In h)(G:h.Ns mainGlobals mg)(e:PySem.W.nsIn K mainGlobals x=some (some (.ref f)))(l:K.lookup f=some ⟨oc,od,.func (PySem.W.fnOf x x (defArgs st) (defBody st) (defScope st) .none kV doc pm an cdv ct),osl⟩)(c:PySem.W.codeIn K cdv x=true)(k:PySem.W.keepIn K (.ref f)=true):DefAt K mg x st:=⟨f,_,zvc l c k,PySem.W.mg_of X G e⟩
theorem zen (_:Cls K C)(e:PySem.W.findIn K (.ref C) m=some (some (.ref f)))(i:PySem.W.isFn K (.ref f)=true)(l:K.lookup f=some ⟨oc,od,.func (PySem.W.fnOf m qual (defArgs st) (defBody st) (defScope st) .none kV doc pm an cdv ct),osl⟩)(c:PySem.W.codeIn K cdv qual=true)(k:PySem.W.keepIn K (.ref f)=true):MethAt K C m qual st:=⟨f,_,zvc l c k,⟨e,i,k⟩⟩
theorem zgc (X:K.In h)(G:h.Ns mainGlobals mg)(u:PySem.W.nsIn K mainGlobals x=some (some (.ref C)))(e:PySem.W.findIn K (.ref C) "__init__"=some (some (.ref f)))(i:PySem.W.isFn K (.ref f)=true)(l:K.lookup f=some ⟨oc,od,.func (PySem.W.fnOf "__init__" qual (defArgs st) (defBody st) (defScope st) .none kV doc pm an cdv ct),osl⟩)(c:PySem.W.codeIn K cdv qual=true)(k:PySem.W.keepIn K (.ref f)=true)(mk:PySem.W.makesIn K C=true)(kc:PySem.W.keepIn K (.ref C)=true)(cl:Cls K C):ClassAt K mg x C qual st:=⟨⟨f,_,zvc l c k,⟨mk,e,i,kc⟩,PySem.W.mg_of X G u⟩,cl⟩
theorem zas {n:Int}{t:Tok}(X:K.In h)(G:h.Ns mainGlobals mg)(e:PySem.W.nsIn K mainGlobals x=some (some (.int n t))):GInt mg x n:=⟨t,PySem.W.mg_of X G e⟩
theorem zt5 {n v:Str}{t:Tok}(X:K.In h)(G:h.Ns mainGlobals mg)(e:PySem.W.nsIn K mainGlobals x=some (some (.str v t)))(z:v=n):GStr mg x n:=⟨t,by rw [←z];exact PySem.W.mg_of X G e⟩
theorem na (e:PySem.W.findIn K (.ref C) x=some none):NoAttr K C x:=e
theorem tupg_mk {xs:List Str}{its:Array Value}{n:Nat}(_:K.In h)(_:mg x=some (.ref a))(l:K.lookup a=some ⟨.type "tuple",od,.seq its n,osl⟩)(hz:its.size≤sizeLine)(v:Vals (xs.map V.str) its.toList):TupG K a xs:=⟨_,its,n,l,rfl,rfl,hz,v⟩
end
theorem zdi {K:PySem.W.Frag}{a:Addr}{od:Option Addr}{osl:Array (Option Value)}{xs:List Str}{its:Array Value}{n:Nat}(l:K.lookup a=some ⟨.type "tuple",od,.seq its n,osl⟩)(hz:its.size≤sizeLine)(v:Vals (xs.map V.str) its.toList):TupG K a xs:=⟨_,its,n,l,rfl,rfl,hz,v⟩
theorem use {p q:Prop}(a:p)(k:p→q):q:=k a
theorem forms_mk {w:World}{K:PySem.W.Frag}{h:Heap}{mg:Str→Option Value}{x:Str}{a ep:Nat}{t0 t1 t2 t3 t4 t5 t6 t7 t8 t9:Tok}{a0 a1 a2 a3 a4 a5 a6 a7 a8 a9:Addr}{s0 s1 s2 s3 s4 s5 s6 s7 s8 s9:Str}(_:K.In h)(_:mg x=some (.ref a))(l:K.lookup a=some {cls:=.type "dict",data:=.dict #[⟨PyData.keyHash w.params s0,.str s0 t0,.ref a0⟩,⟨PyData.keyHash w.params s1,.str s1 t1,.ref a1⟩,⟨PyData.keyHash w.params s2,.str s2 t2,.ref a2⟩,⟨PyData.keyHash w.params s3,.str s3 t3,.ref a3⟩,⟨PyData.keyHash w.params s4,.str s4 t4,.ref a4⟩,⟨PyData.keyHash w.params s5,.str s5 t5,.ref a5⟩,⟨PyData.keyHash w.params s6,.str s6 t6,.ref a6⟩,⟨PyData.keyHash w.params s7,.str s7 t7,.ref a7⟩,⟨PyData.keyHash w.params s8,.str s8 t8,.ref a8⟩,⟨PyData.keyHash w.params s9,.str s9 t9,.ref a9⟩] ep})(sys:(a==sysModules)=false)(z:[s0,s1,s2,s3,s4,s5,s6,s7,s8,s9]=formsOf.map fun p=>toS p.1)(T0:TupG K a0 ["claim"])(T1:TupG K a1 ["who","weight"])(T2:TupG K a2 ["who","claim"])(T3:TupG K a3 ["who","claim"])(T4:TupG K a4 ["claim"])(T5:TupG K a5 ["claim"])(T6:TupG K a6 ["claim","if"])(T7:TupG K a7 ["claim","if"])(T8:TupG K a8 ["who","points","if"])(T9:TupG K a9 ["who","if"]):
  ∃ fq,Tab K w a fq∧Paired (fun (q:Str×Tok×Addr) (p:Bytes×List Part)=>q.1=toS p.1∧TupG K q.2.2 (p.2.map Part.str)) fq formsOf:=by
 refine ⟨[(s0,t0,a0),(s1,t1,a1),(s2,t2,a2),(s3,t3,a3),(s4,t4,a4),(s5,t5,a5),(s6,t6,a6),(s7,t7,a7),(s8,t8,a8),(s9,t9,a9)],⟨⟨ep,l⟩,?_,sys⟩,?_⟩
 ·show [s0,s1,s2,s3,s4,s5,s6,s7,s8,s9].Nodup;rw [z];decide +kernel
 ·have z':[s0,s1,s2,s3,s4,s5,s6,s7,s8,s9]=[toS (ascii "claim"),toS (ascii "weight"),toS (ascii "says"),toS (ascii "denies"),toS (ascii "seen"),toS (ascii "unseen"),toS (ascii "for"),toS (ascii "against"),toS (ascii "penalty"),toS (ascii "redress")]:=z;simp only [List.cons.injEq,and_true] at z';obtain ⟨z0,z1,z2,z3,z4,z5,z6,z7,z8,z9⟩:=z';exact (.cons ⟨z0,T0⟩ (.cons ⟨z1,T1⟩ (.cons ⟨z2,T2⟩ (.cons ⟨z3,T3⟩ (.cons ⟨z4,T4⟩ (.cons ⟨z5,T5⟩ (.cons ⟨z6,T6⟩ (.cons ⟨z7,T7⟩ (.cons ⟨z8,T8⟩ (.cons ⟨z9,T9⟩ .nil))))))))))
theorem top_mk {P:Program}{w:World}{K:PySem.W.Frag}{h:Heap}{mg:Str→Option Value}{fa f:Addr}{oc:Value}{od an:Option Addr}{osl:Array (Option Value)}{kV doc pm cdv ct:Value}{ad:Ads}{cd:Cds}(X:K.In h)(G:h.Ns mainGlobals mg)(hfa:mg "answers"=some (.ref fa))(e:PySem.W.nsIn K mainGlobals "answers"=some (some (.ref f)))(l:K.lookup f=some ⟨oc,od,.func (PySem.W.fnOf "answers" "answers" (defArgs zeg) (defBody zeg) (defScope zeg) .none kV doc pm an cdv ct),osl⟩)(c:PySem.W.codeIn K cdv "answers"=true)(k:PySem.W.keepIn K (.ref f)=true)(A:AllAt ad cd w K mg):
  ∃ fd:FuncData,(∀ (s:Shared) (us:List Value),us.length=(["calls"]:List Str).length→BindsTo s fd ⟨us,[]⟩ ((["calls"]:List Str).zip us))∧∀ base:Heap,K.In base→base.Ns mainGlobals mg→FnOk P w K mg base CX0 9 fa fd ["calls"] (zhj K):=by
 have q:=hfa.symm.trans (PySem.W.mg_of X G e);cases q;exact ⟨_,fun s us hu=>match us,hu with | [_],_=>.of_eq rfl,fun base _ _=>all_fn A (zvc (st:=zeg) l c k)⟩
end
end HC
section
namespace PySem.W.Fast
def tw11287946289529593151:=0
def tw12316437709684031846:=0
def tw13015335685919079484:=0
def tw11704333641149736887:=0
def tw5996515272240313970:=0
def tw3590667558664409578:=0
def tw12461063095495658830:=0
def tw4599478001102594876:=0
def tw7146953972018446234:=0
def tw13618868834331824979:=0
def tw16896530057426632162:=0
def tw2740937255153327578:=0
def tw15537628868145827220:=0
def tw847517393159715559:=0
def tw11157829371152630967:=0
def tw2547244591164655952:=0
def tw17000005593691618641:=0
def tw15595907944525462494:=0
def tw16007392355238113337:=0
def tw1440919915795259857:=0
def tw16935558316999396902:=0
def tw16723504693137149844:=0
def tw11130243457312693567:=0
def tw14180373256250555932:=0
def tw7312498241221386191:=0
def tw1504261395110173527:=0
def tw1446515353945315780:=0
def tw12481123022871924509:=0
def tw805966049226727083:=0
def tw8790182953675160735:=0
def tw7733988452234983374:=0
def tw4263043331702979016:=0
def tw102024088977692812:=0
def tw14987152131073924885:=0
def tw7259618650609369188:=0
def tw8731778368770041171:=0
def tw1338986899014115988:=0
def tw9105498592119929465:=0
def tw2398311555666091450:=0
def tw15752071361136979754:=0
def tw5438112836552961432:=0
def tw10855881922189861295:=0
def tw10124167234548035169:=0
def tw15103623226863934250:=0
def tw9917081090471531698:=0
def tw4034009596771328367:=0
def tw7401978842493407447:=0
def tw5367634020777109270:=0
def tw12047015416870211678:=0
def tw12499029870798741656:=0
def tw17151497241959845582:=0
def tw1329895772700005998:=0
def tw5255323006678363378:=0
def tw7831120828824553161:=0
def tw13086541006951738308:=0
def tw4565254327422702396:=0
def tw14746874910830051704:=0
def tw8828102766178688858:=0
def tw18032496146983279572:=0
def tw17126524967630686570:=0
def tw6346622337750950346:=0
def tw10333420126361125786:=0
def tw7151365518916996318:=0
def tw2817493376320350793:=0
def tw3227540359082252740:=0
def tw2863880867525776810:=0
def tw2180961451434902073:=0
def tw15581333250958997695:=0
def tw10694439169475725036:=0
def tw4093529614851722989:=0
def tw1023639241138259495:=0
def tw15571939185919773486:=0
def tw9332265927535952941:=0
def tw6465883207349422237:=0
def tw15519716372290048839:=0
def tw6771755616311816860:=0
def tw3603549923502609322:=0
def tw5923008291936782998:=0
def tw7069264207515847835:=0
def tw4238147240349488714:=0
def tw14890910993346061960:=0
def tw3815926994010180986:=0
def tw11598786421586788559:=0
def tw14896999167725132425:=0
def tw18027979713172098825:=0
def tw17517612217364083645:=0
def tw7592635800286112845:=0
def tw6748142116856590653:=0
def tw6848176124419359203:=0
def tw4475981454832032865:=0
def tw1970921235449835938:=0
def tw14953570220015624953:=0
def tw8257211260211651208:=0
def tw776417466893684775:=0
def tw7356542416651257316:=0
def tw14425994715467759814:=0
def tw8487047416504743968:=0
def tw8252535979534545083:=0
def tw3977913312029300218:=0
def tw15666874572823737637:=0
def tw11193961015070555091:=0
def tw14165327125493343654:=0
def tw2819380922663108604:=0
def tw1820671215088089084:=0
def tw4097023780557119628:=0
def tw14481889759750575655:=0
def tw1857612772524900233:=0
def tw15185551411136384317:=0
def tw3867501910577229279:=0
def tw16401400846309041106:=0
def tw2913077833603141487:=0
def tw16854953084745894007:=0
def tw788055154101381957:=0
def tw15387866370468535806:=0
def tw14976017318335006904:=0
def tw15413718281721366372:=0
def tw2648430990236772219:=0
def tw12397090457629536022:=0
def tw6354089087107138347:=0
def tw18090371755331896201:=0
def tw7284481569614339602:=0
def tw16636483629583497714:=0
def tw3323869238583179789:=0
def tw17833292581241566951:=0
def tw9974017390246382392:=0
def tw6775321112295249852:=0
def tw7724445619241398574:=0
def tw14115333196115485254:=0
def tw16950480829762711852:=0
def tw14572617706700248263:=0
def tw12018861995773898419:=0
def tw10081187443073465999:=0
def tw342607403413447629:=0
def tw1256275111109532685:=0
def tw8409610270560093343:=0
def tw12796135994796738529:=0
def tw5676944299750392973:=0
def tw13309876987644790855:=0
def tw10475268717698167156:=0
def tw3595677679063804556:=0
def tw5114270542427986800:=0
def tw16886217606681484505:=0
def tw17559318666764385616:=0
def tw5263919983750895552:=0
def tw9389624857469854344:=0
def tw2157463497121006957:=0
def tw6592233772511503770:=0
def tw17736267025828960677:=0
def tw17318825235997966691:=0
def tw948843374617896279:=0
def tw5813380002614121123:=0
def tw5687415453697235716:=0
def tw5328805500288525578:=0
def tw2314051870797323521:=0
def tw308231408127487417:=0
def tw4038313606816433306:=0
def tw12324463745126782957:=0
def tw2307556121823848433:=0
def tw5487528979335139594:=0
def tw5933534221917188973:=0
def tw8590656995831128344:=0
def tw951791965967589807:=0
def tw18326994875622390168:=0
def tw16938668775802491650:=0
def tw11864939972622931351:=0
def tw1658771639938774007:=0
def tw12614525124278314981:=0
def tw6869992127696179071:=0
def tw4012660351836971183:=0
def tw15506747782928976310:=0
def tw14631060251043739981:=0
def tw17967533222679477406:=0
def tw5122269599730890499:=0
def tw10032809240516436692:=0
def tw1030880965655668679:=0
def tw12886570783563084507:=0
def tw402927728940609642:=0
def tw8034468723029373165:=0
def tw12260645945046612085:=0
def tw716506706419198673:=0
def tw13582496349161849781:=0
def tw16694327689572904887:=0
def tw12584989831171473834:=0
def tw2866375372656732831:=0
def tw4604849861207136698:=0
def tw1822699513542779928:=0
def tw4910271585231148170:=0
def tw12178298251773849908:=0
def tw4446467566360113273:=0
def tw4209169716364971575:=0
def tw6686382739586848587:=0
def tw11073864260174989801:=0
def tw7548824212748420253:=0
def tw6794934951880938431:=0
def tw15171583682546003829:=0
def tw1917070854689521610:=0
def tw3217751991969447910:=0
def tw7851440444009720602:=0
def tw2912935937619568942:=0
def tw9398358691327733671:=0
def tw490112344211112876:=0
def tw16350081511888013590:=0
def tw17880294704967074696:=0
def tw15349381997050251800:=0
def tw9907391198176220786:=0
def tw6381947783188568259:=0
def tw13043690450164963018:=0
def tw8880645537378572170:=0
def tw17409485993522300327:=0
def tw653709905923707618:=0
def tw2154941639239100942:=0
def tw2616999412321664943:=0
def tw2829622186905418420:=0
def tw10445240593273812169:=0
def tw15523169957598278605:=0
def tw1379800606355546652:=0
def tw12082410129961012338:=0
def tw2175075881112842355:=0
def tw13070979078377486130:=0
def tw9371660505314308347:=0
def tw4678668581444695722:=0
def tw18396024750928034041:=0
def tw6935287160645066965:=0
def tw8441074232869681215:=0
def tw11569945340973083087:=0
def tw16178073794449829838:=0
def tw6175033674730127031:=0
def tw6606461136550491033:=0
def tw7138087309736038847:=0
def tw11140909786983599336:=0
def tw13407140725594136071:=0
def tw834947450461484638:=0
def tw2392855964582344544:=0
def tw15482661117834183664:=0
def tw15280527620668365847:=0
def tw7366141188335216947:=0
def tw912184161391835914:=0
def tw13424984854328152812:=0
def tw5275522921497514870:=0
def tw1579469651704407033:=0
def tw15846355611715226644:=0
def tw10726504979411074648:=0
def tw15167665838858034832:=0
def tw7279562732972137516:=0
def tw16629750829507387260:=0
def tw3394367858017597241:=0
def tw8517299940397765964:=0
def tw9841174960528738377:=0
def tw214790357167780762:=0
def tw16138022015811915037:=0
def tw11432112368693935424:=0
def tw5872859006945312863:=0
def tw9978386356519578723:=0
def tw13783339606767044930:=0
def tw10264845730559222348:=0
def tw17042676307744119083:=0
def tw2488995074910284287:=0
def tw13682423916012890459:=0
def tw17210952059305746747:=0
def tw3514504305891673070:=0
def tw7446023123796917816:=0
def tw15647114559408252127:=0
def tw15189619308914100656:=0
def tw14914955823582003926:=0
def tw8283396460192727985:=0
def tw9565323113659980531:=0
def tw815544139558472695:=0
def tw11401898059072127590:=0
def tw7788876937441562132:=0
def tw3162554824513553204:=0
def tw6647945624003243067:=0
def tw17401708433079448267:=0
def tw2587054710957996991:=0
def tw13468805561536904595:=0
def tw3095104591150304975:=0
def tw12058390586794437534:=0
def tw13611845790780919584:=0
def tw13072044495555373063:=0
def tw6215059072172126216:=0
def tw18086483968748201950:=0
def tw259476043976983947:=0
def tw17327888281205559856:=0
def tw1274324957489478352:=0
def tw1052885473163967152:=0
def tw8611101460122199139:=0
def tw13848137726610277562:=0
def tw14789436519770780108:=0
def tw9475350957239329563:=0
def tw215333156946933629:=0
def tw6149062736077761641:=0
def tw1808170517540155150:=0
def tw17250932073387793511:=0
def tw18290885721636049048:=0
def tw10264542026292802779:=0
def tw10404834561288130342:=0
def tw18191210339327910109:=0
def tw13412975876572881617:=0
def tw18009393942161087716:=0
def tw3988906481659698507:=0
def tw6121853286723691915:=0
def tw9024715999080290446:=0
def tw11698843659836557708:=0
def tw1525686646479807503:=0
def tw11010614114926719665:=0
def tw14610975301180416389:=0
def tw785090783037779123:=0
def tw10113937261496340079:=0
def tw15113791006067755641:=0
def tw7026682587056023229:=0
def tw11075714154527377371:=0
def tw13577727244612640429:=0
def tw14381838983176074041:=0
def tw10346367241515810593:=0
def tw4312965574129165538:=0
def tw14718940868115897450:=0
def tw11999394002520038121:=0
def tw15322993053421293652:=0
def tw2066869919035231429:=0
def tw37331927339968697:=0
def tw6070382829962285374:=0
def tw3837516599533157255:=0
def tw15911071496589589695:=0
def tw1858007348370540689:=0
def tw4728207114637222524:=0
def tw8675416715510320887:=0
def tw16774681738840230953:=0
def tw6376429083772089466:=0
def tw8390919227997339974:=0
def tw17430474929072132418:=0
def tw10322428350975149170:=0
def tw12498603266384723438:=0
def tw8742170504578002501:=0
def tw17528140773848014558:=0
def tw7848200783934612118:=0
def tw15358542724638457138:=0
def tw3621546431581078035:=0
def tw5574606229029193878:=0
def tw15369959335512444415:=0
def tw16062543920501507521:=0
def tw4144700106486151571:=0
def tw4807865163018303440:=0
def tw14754452911331100296:=0
def tw716113269119898435:=0
def tw10922891146260607455:=0
def tw10081459157657981746:=0
def tw6636588548187041426:=0
def tw4639328763944615179:=0
def tw105308001435764650:=0
def tw10806587973375216301:=0
def tw8231543566451560983:=0
def tw5895844472026620985:=0
def tw13061789134998959588:=0
def tw17924331941305008378:=0
def tw9789592729868166214:=0
def tw9024668471618871314:=0
def tw4676826889682798687:=0
def tw13674292688661528059:=0
def tw3965778318487857930:=0
def tw6211295517750392223:=0
def tw17577078911938568896:=0
def tw13135615468015071734:=0
def tw10796024902927956478:=0
def tw3165467013174522288:=0
def tw13025344937808917875:=0
def tw10838175783275808276:=0
def tw4952897760651632358:=0
def tw17381852353514337150:=0
def tw2053127751185114618:=0
def tw14055904877643657505:=0
def tw13568385419788049431:=0
def tw1804414873506089279:=0
def tw7324206662984578676:=0
def tw10546491105103981156:=0
def tw4633544538887161464:=0
def tw1961269563302707167:=0
def tw4191619528768173521:=0
def tw3397030370991271148:=0
def tw222155938481574163:=0
def tw16840533955004363006:=0
def tw14470809272020130131:=0
def tw10458170738868588621:=0
def tw436026932210416347:=0
def tw17135745987030544884:=0
def tw11620629371915071654:=0
def tw8279319521603543606:=0
def tw15416064892689699486:=0
def tw16325592277441997484:=0
def tw253536636119833399:=0
def tw14426813216337552487:=0
def tw2824251147330585941:=0
def tw8106864406222985983:=0
def tw13045395547201245704:=0
def tw7259276916829545560:=0
def tw2647487756493426975:=0
def tw16421452699755444193:=0
def tw12706820164722889140:=0
def tw18207007366270853371:=0
def tw7855071753779772856:=0
def tw12217653377029003177:=0
def tw9667455897683466721:=0
def tw4076801697442358168:=0
def tw12144024974210990254:=0
def tw10627071064498289409:=0
def tw11980838079807998487:=0
def tw11909352161999616897:=0
def tw15531816350113738703:=0
def tw13005709745787687454:=0
def tw8126347979929729803:=0
def tw5729849194152084997:=0
def tw6664775458595857075:=0
def tw15578843211737355507:=0
def tw15284184980485163859:=0
def tw15173338468958071190:=0
def tw10156278726993967576:=0
def tw10148693203157746479:=0
def tw13041089958879826079:=0
def tw4918850677111076972:=0
def tw16272268289038394649:=0
def tw15670455124954632256:=0
def tw12892218539920334726:=0
def tw2863767086333499730:=0
def tw5457306388094459876:=0
def tw2001763894048808747:=0
def tw2399803614572145127:=0
def tw6869694444606036483:=0
def tw11376993311466993582:=0
def tw5860839793255624414:=0
def tw18328118768930924376:=0
def tw10459029244403504582:=0
def tw1579156046164245870:=0
def tw15994782493338923812:=0
def tw15097361289919418166:=0
def tw13076320696034965449:=0
def tw3508466211415443105:=0
def tw421034665644691605:=0
def tw12591502432080855225:=0
def tw8380104426265779972:=0
def tw7256084865329589104:=0
def tw2645506895292844585:=0
def tw18403772931622915956:=0
def tw16313219793569426618:=0
def tw11786670040540664013:=0
def tw15519265755705371726:=0
def tw1442985480700641512:=0
def tw15431153727349487025:=0
def tw10575268772101032676:=0
def tw10629896436096072941:=0
def tw17705059707272912249:=0
def tw12159771514375633404:=0
def tw8724933050678622907:=0
def tw6448724966504803833:=0
def tw11129146975073481396:=0
def tw4720515257144836871:=0
def tw8783452590812544662:=0
def tw12834191697490885489:=0
def tw8945385717391547083:=0
def tw10988077601477017113:=0
def tw11565393077820756799:=0
def tw7444151849527289858:=0
def tw13528228976250577785:=0
def tw6683207284014834046:=0
def tw12469605685212708828:=0
def tw9504174535886450654:=0
def tw11038975445060741770:=0
def tw1939956556918383216:=0
def tw1060374392370588069:=0
def tw999963235876087222:=0
def tw1713144440850647651:=0
def tw5387441108658817897:=0
def tw8483635936558904069:=0
def tw12960046429851855350:=0
end PySem.W.Fast
open PySem PySem.W PyProof.Rows
set_option maxRecDepth 100000 in
set_option maxHeartbeats 0 in
theorem PySem.Challenge.cw_heardcase_s01_answers_holds : PySem.Challenge.rw_heardcase_s01_answers.Holds := by
 w_on;k_headS;(case hw=>exact ⟨[.list [.int 2]],by decide +kernel,by decide +kernel⟩)
 k_fillS
 refine L2.zvp (r:=PySem.Challenge.rw_heardcase_s01_answers) (k:=9) (CX:=L2.CX0) (ps:=["calls"]) (sp:=HC.zhj) (by decide +kernel) rfl rfl ⟨rfl,by decide,by decide⟩ (fun w h Y=>PySem.W.kIn_of Y) ?F ?S (fun _ _ _ _ z=>z)
 case F=>
  intro w mg fa h Y KX G hmg;refine' HC.use (HC.zgc (x:="Line") (qual:="Line.__init__") (st:=HC.zb9) KX G ?q1_u ?q1_e ?q1_i ?q1_l ?q1_c ?q1_k ?q1_m ?q1_kc ⟨?q1_pg,?q1_hd,?q1_po,?q1_sa⟩) (fun k_Line=>?q1_n)
  (case q1_u=>k_is);(case q1_e=>k_is);(case q1_i=>k_is);(case q1_l=>k_is);(case q1_c=>k_is);(case q1_k=>k_is);(case q1_m=>k_is);(case q1_kc=>k_is);(case q1_pg=>k_is);(case q1_hd=>k_is);(case q1_po=>k_is);(case q1_sa=>k_is)
  refine' HC.use (HC.ClsLine.mk k_Line.cl (HC.na ?q2_n1) (HC.na ?q2_n2) (HC.na ?q2_n3) (HC.na ?q2_n4) (HC.na ?q2_n5)) (fun cLine=>?q2_n)
  (case q2_n1=>k_is);(case q2_n2=>k_is);(case q2_n3=>k_is);(case q2_n4=>k_is);(case q2_n5=>k_is)
  refine' HC.use (HC.zgc (x:="Claim") (qual:="Claim.__init__") (st:=HC.zb0) KX G ?q3_u ?q3_e ?q3_i ?q3_l ?q3_c ?q3_k ?q3_m ?q3_kc ⟨?q3_pg,?q3_hd,?q3_po,?q3_sa⟩) (fun k_Claim=>?q3_n)
  (case q3_u=>k_is);(case q3_e=>k_is);(case q3_i=>k_is);(case q3_l=>k_is);(case q3_c=>k_is);(case q3_k=>k_is);(case q3_m=>k_is);(case q3_kc=>k_is);(case q3_pg=>k_is);(case q3_hd=>k_is);(case q3_po=>k_is);(case q3_sa=>k_is)
  refine' HC.use (HC.ClsClaim.mk k_Claim.cl (HC.na ?q4_n1) (HC.na ?q4_n2) (HC.na ?q4_n3)) (fun cClaim=>?q4_n)
  (case q4_n1=>k_is);(case q4_n2=>k_is);(case q4_n3=>k_is)
  refine' HC.use (HC.zgc (x:="Rule") (qual:="Rule.__init__") (st:=HC.zb8) KX G ?q5_u ?q5_e ?q5_i ?q5_l ?q5_c ?q5_k ?q5_m ?q5_kc ⟨?q5_pg,?q5_hd,?q5_po,?q5_sa⟩) (fun k_Rule=>?q5_n)
  (case q5_u=>k_is);(case q5_e=>k_is);(case q5_i=>k_is);(case q5_l=>k_is);(case q5_c=>k_is);(case q5_k=>k_is);(case q5_m=>k_is);(case q5_kc=>k_is);(case q5_pg=>k_is);(case q5_hd=>k_is);(case q5_po=>k_is);(case q5_sa=>k_is)
  refine' HC.use (HC.ClsRule.mk k_Rule.cl (HC.na ?q6_n1) (HC.na ?q6_n2) (HC.na ?q6_n3)) (fun cRule=>?q6_n)
  (case q6_n1=>k_is);(case q6_n2=>k_is);(case q6_n3=>k_is)
  refine' HC.use (HC.zgc (x:="Boat") (qual:="Boat.__init__") (st:=HC.zcc) KX G ?q7_u ?q7_e ?q7_i ?q7_l ?q7_c ?q7_k ?q7_m ?q7_kc ⟨?q7_pg,?q7_hd,?q7_po,?q7_sa⟩) (fun k_Boat=>?q7_n)
  (case q7_u=>k_is);(case q7_e=>k_is);(case q7_i=>k_is);(case q7_l=>k_is);(case q7_c=>k_is);(case q7_k=>k_is);(case q7_m=>k_is);(case q7_kc=>k_is);(case q7_pg=>k_is);(case q7_hd=>k_is);(case q7_po=>k_is);(case q7_sa=>k_is)
  refine' HC.use (HC.ClsBoat.mk k_Boat.cl (HC.na ?q8_n1) (HC.na ?q8_n2)) (fun cBoat=>?q8_n)
  (case q8_n1=>k_is);(case q8_n2=>k_is)
  refine' HC.use (HC.zgc (x:="Case") (qual:="Case.__init__") (st:=HC.zcb) KX G ?q9_u ?q9_e ?q9_i ?q9_l ?q9_c ?q9_k ?q9_m ?q9_kc ⟨?q9_pg,?q9_hd,?q9_po,?q9_sa⟩) (fun k_Case=>?q9_n)
  (case q9_u=>k_is);(case q9_e=>k_is);(case q9_i=>k_is);(case q9_l=>k_is);(case q9_c=>k_is);(case q9_k=>k_is);(case q9_m=>k_is);(case q9_kc=>k_is);(case q9_pg=>k_is);(case q9_hd=>k_is);(case q9_po=>k_is);(case q9_sa=>k_is)
  refine' HC.use (HC.ClsCase.mk k_Case.cl (HC.na ?q10_n1) (HC.na ?q10_n2) (HC.na ?q10_n3) (HC.na ?q10_n4) (HC.na ?q10_n5) (HC.na ?q10_n6)) (fun cCase=>?q10_n)
  (case q10_n1=>k_is);(case q10_n2=>k_is);(case q10_n3=>k_is);(case q10_n4=>k_is);(case q10_n5=>k_is);(case q10_n6=>k_is)
  refine' HC.use (HC.zgc (x:="Proof") (qual:="Proof.__init__") (st:=HC.zbw) KX G ?q11_u ?q11_e ?q11_i ?q11_l ?q11_c ?q11_k ?q11_m ?q11_kc ⟨?q11_pg,?q11_hd,?q11_po,?q11_sa⟩) (fun k_Proof=>?q11_n)
  (case q11_u=>k_is);(case q11_e=>k_is);(case q11_i=>k_is);(case q11_l=>k_is);(case q11_c=>k_is);(case q11_k=>k_is);(case q11_m=>k_is);(case q11_kc=>k_is);(case q11_pg=>k_is);(case q11_hd=>k_is);(case q11_po=>k_is);(case q11_sa=>k_is)
  refine' HC.use (HC.ClsProof.mk k_Proof.cl (HC.na ?q12_n1) (HC.na ?q12_n2)) (fun cProof=>?q12_n)
  (case q12_n1=>k_is);(case q12_n2=>k_is)
  refine' HC.use (HC.zgc (x:="Desk") (qual:="Desk.__init__") (st:=HC.zca) KX G ?q13_u ?q13_e ?q13_i ?q13_l ?q13_c ?q13_k ?q13_m ?q13_kc ⟨?q13_pg,?q13_hd,?q13_po,?q13_sa⟩) (fun k_Desk=>?q13_n)
  (case q13_u=>k_is);(case q13_e=>k_is);(case q13_i=>k_is);(case q13_l=>k_is);(case q13_c=>k_is);(case q13_k=>k_is);(case q13_m=>k_is);(case q13_kc=>k_is);(case q13_pg=>k_is);(case q13_hd=>k_is);(case q13_po=>k_is);(case q13_sa=>k_is)
  refine' HC.use (HC.ClsDesk.mk k_Desk.cl (HC.na ?q14_n1) (HC.na ?q14_n2) (HC.na ?q14_n3) (HC.na ?q14_m1)) (fun cDesk=>?q14_n)
  (case q14_n1=>k_is);(case q14_n2=>k_is);(case q14_n3=>k_is);(case q14_m1=>k_is)
  refine' HC.use (HC.za6 (x:="wanted_by") (st:=HC.zeb) KX G ?q15_e ?q15_l ?q15_c ?q15_k) (fun d_wanted_by=>?q15_n)
  (case q15_e=>k_is);(case q15_l=>k_is);(case q15_c=>k_is);(case q15_k=>k_is)
  refine' HC.use (HC.za6 (x:="is_name") (st:=HC.zg5) KX G ?q16_e ?q16_l ?q16_c ?q16_k) (fun d_is_name=>?q16_n)
  (case q16_e=>k_is);(case q16_l=>k_is);(case q16_c=>k_is);(case q16_k=>k_is)
  refine' HC.use (HC.za6 (x:="is_claim_name") (st:=HC.zb6) KX G ?q17_e ?q17_l ?q17_c ?q17_k) (fun d_is_claim_name=>?q17_n)
  (case q17_e=>k_is);(case q17_l=>k_is);(case q17_c=>k_is);(case q17_k=>k_is)
  refine' HC.use (HC.za6 (x:="number_from") (st:=HC.zcy) KX G ?q18_e ?q18_l ?q18_c ?q18_k) (fun d_number_from=>?q18_n)
  (case q18_e=>k_is);(case q18_l=>k_is);(case q18_c=>k_is);(case q18_k=>k_is)
  refine' HC.use (HC.za6 (x:="read_conditions") (st:=HC.zbn) KX G ?q19_e ?q19_l ?q19_c ?q19_k) (fun d_read_conditions=>?q19_n)
  (case q19_e=>k_is);(case q19_l=>k_is);(case q19_c=>k_is);(case q19_k=>k_is)
  refine' HC.use (HC.za6 (x:="fill_part") (st:=HC.zee) KX G ?q20_e ?q20_l ?q20_c ?q20_k) (fun d_fill_part=>?q20_n)
  (case q20_e=>k_is);(case q20_l=>k_is);(case q20_c=>k_is);(case q20_k=>k_is)
  refine' HC.use (HC.za6 (x:="read_line") (st:=HC.zec) KX G ?q21_e ?q21_l ?q21_c ?q21_k) (fun d_read_line=>?q21_n)
  (case q21_e=>k_is);(case q21_l=>k_is);(case q21_c=>k_is);(case q21_k=>k_is)
  refine' HC.use (HC.za6 (x:="signs_of") (st:=HC.zd3) KX G ?q22_e ?q22_l ?q22_c ?q22_k) (fun d_signs_of=>?q22_n)
  (case q22_e=>k_is);(case q22_l=>k_is);(case q22_c=>k_is);(case q22_k=>k_is)
  refine' HC.use (HC.za6 (x:="fact") (st:=HC.zqz) KX G ?q23_e ?q23_l ?q23_c ?q23_k) (fun d_fact=>?q23_n)
  (case q23_e=>k_is);(case q23_l=>k_is);(case q23_c=>k_is);(case q23_k=>k_is)
  refine' HC.use (HC.za6 (x:="claim_of") (st:=HC.zfg) KX G ?q24_e ?q24_l ?q24_c ?q24_k) (fun d_claim_of=>?q24_n)
  (case q24_e=>k_is);(case q24_l=>k_is);(case q24_c=>k_is);(case q24_k=>k_is)
  refine' HC.use (HC.za6 (x:="can_stand") (st:=HC.zef) KX G ?q25_e ?q25_l ?q25_c ?q25_k) (fun d_can_stand=>?q25_n)
  (case q25_e=>k_is);(case q25_l=>k_is);(case q25_c=>k_is);(case q25_k=>k_is)
  refine' HC.use (HC.za6 (x:="clashes") (st:=HC.zg6) KX G ?q26_e ?q26_l ?q26_c ?q26_k) (fun d_clashes=>?q26_n)
  (case q26_e=>k_is);(case q26_l=>k_is);(case q26_c=>k_is);(case q26_k=>k_is)
  refine' HC.use (HC.za6 (x:="is_too_much") (st:=HC.zcz) KX G ?q27_e ?q27_l ?q27_c ?q27_k) (fun d_is_too_much=>?q27_n)
  (case q27_e=>k_is);(case q27_l=>k_is);(case q27_c=>k_is);(case q27_k=>k_is)
  refine' HC.use (HC.za6 (x:="what_is_wrong") (st:=HC.zb5) KX G ?q28_e ?q28_l ?q28_c ?q28_k) (fun d_what_is_wrong=>?q28_n)
  (case q28_e=>k_is);(case q28_l=>k_is);(case q28_c=>k_is);(case q28_k=>k_is)
  refine' HC.use (HC.za6 (x:="enter_claim") (st:=HC.zc1) KX G ?q29_e ?q29_l ?q29_c ?q29_k) (fun d_enter_claim=>?q29_n)
  (case q29_e=>k_is);(case q29_l=>k_is);(case q29_c=>k_is);(case q29_k=>k_is)
  refine' HC.use (HC.za6 (x:="enter_witness") (st:=HC.zb7) KX G ?q30_e ?q30_l ?q30_c ?q30_k) (fun d_enter_witness=>?q30_n)
  (case q30_e=>k_is);(case q30_l=>k_is);(case q30_c=>k_is);(case q30_k=>k_is)
  refine' HC.use (HC.za6 (x:="enter_words") (st:=HC.zc0) KX G ?q31_e ?q31_l ?q31_c ?q31_k) (fun d_enter_words=>?q31_n)
  (case q31_e=>k_is);(case q31_l=>k_is);(case q31_c=>k_is);(case q31_k=>k_is)
  refine' HC.use (HC.za6 (x:="needed_by") (st:=HC.zed) KX G ?q32_e ?q32_l ?q32_c ?q32_k) (fun d_needed_by=>?q32_n)
  (case q32_e=>k_is);(case q32_l=>k_is);(case q32_c=>k_is);(case q32_k=>k_is)
  refine' HC.use (HC.za6 (x:="enter_rule") (st:=HC.zdr) KX G ?q33_e ?q33_l ?q33_c ?q33_k) (fun d_enter_rule=>?q33_n)
  (case q33_e=>k_is);(case q33_l=>k_is);(case q33_c=>k_is);(case q33_k=>k_is)
  refine' HC.use (HC.za6 (x:="enter_boat") (st:=HC.zdt) KX G ?q34_e ?q34_l ?q34_c ?q34_k) (fun d_enter_boat=>?q34_n)
  (case q34_e=>k_is);(case q34_l=>k_is);(case q34_c=>k_is);(case q34_k=>k_is)
  refine' HC.use (HC.za6 (x:="enter_line") (st:=HC.zds) KX G ?q35_e ?q35_l ?q35_c ?q35_k) (fun d_enter_line=>?q35_n)
  (case q35_e=>k_is);(case q35_l=>k_is);(case q35_c=>k_is);(case q35_k=>k_is)
  refine' HC.use (HC.za6 (x:="enter_text") (st:=HC.zdq) KX G ?q36_e ?q36_l ?q36_c ?q36_k) (fun d_enter_text=>?q36_n)
  (case q36_e=>k_is);(case q36_l=>k_is);(case q36_c=>k_is);(case q36_k=>k_is)
  refine' HC.use (HC.za6 (x:="all_hold") (st:=HC.zfh) KX G ?q37_e ?q37_l ?q37_c ?q37_k) (fun d_all_hold=>?q37_n)
  (case q37_e=>k_is);(case q37_l=>k_is);(case q37_c=>k_is);(case q37_k=>k_is)
  refine' HC.use (HC.za6 (x:="going_rules") (st:=HC.zch) KX G ?q38_e ?q38_l ?q38_c ?q38_k) (fun d_going_rules=>?q38_n)
  (case q38_e=>k_is);(case q38_l=>k_is);(case q38_c=>k_is);(case q38_k=>k_is)
  refine' HC.use (HC.za6 (x:="verdict_of_rules") (st:=HC.za8) KX G ?q39_e ?q39_l ?q39_c ?q39_k) (fun d_verdict_of_rules=>?q39_n)
  (case q39_e=>k_is);(case q39_l=>k_is);(case q39_c=>k_is);(case q39_k=>k_is)
  refine' HC.use (HC.za6 (x:="verdict_of_witnesses") (st:=HC.za0) KX G ?q40_e ?q40_l ?q40_c ?q40_k) (fun d_verdict_of_witnesses=>?q40_n)
  (case q40_e=>k_is);(case q40_l=>k_is);(case q40_c=>k_is);(case q40_k=>k_is)
  refine' HC.use (HC.za6 (x:="settle_claim") (st:=HC.zcm) KX G ?q41_e ?q41_l ?q41_c ?q41_k) (fun d_settle_claim=>?q41_n)
  (case q41_e=>k_is);(case q41_l=>k_is);(case q41_c=>k_is);(case q41_k=>k_is)
  refine' HC.use (HC.za6 (x:="settle") (st:=HC.zij) KX G ?q42_e ?q42_l ?q42_c ?q42_k) (fun d_settle=>?q42_n)
  (case q42_e=>k_is);(case q42_l=>k_is);(case q42_c=>k_is);(case q42_k=>k_is)
  refine' HC.use (HC.za6 (x:="penalty_of") (st:=HC.zcs) KX G ?q43_e ?q43_l ?q43_c ?q43_k) (fun d_penalty_of=>?q43_n)
  (case q43_e=>k_is);(case q43_l=>k_is);(case q43_c=>k_is);(case q43_k=>k_is)
  refine' HC.use (HC.za6 (x:="has_redress") (st:=HC.zcg) KX G ?q44_e ?q44_l ?q44_c ?q44_k) (fun d_has_redress=>?q44_n)
  (case q44_e=>k_is);(case q44_l=>k_is);(case q44_c=>k_is);(case q44_k=>k_is)
  refine' HC.use (HC.za6 (x:="members_of") (st:=HC.zct) KX G ?q45_e ?q45_l ?q45_c ?q45_k) (fun d_members_of=>?q45_n)
  (case q45_e=>k_is);(case q45_l=>k_is);(case q45_c=>k_is);(case q45_k=>k_is)
  refine' HC.use (HC.za6 (x:="rank_of") (st:=HC.zg4) KX G ?q46_e ?q46_l ?q46_c ?q46_k) (fun d_rank_of=>?q46_n)
  (case q46_e=>k_is);(case q46_l=>k_is);(case q46_c=>k_is);(case q46_k=>k_is)
  refine' HC.use (HC.zen k_Desk.cl (m:="proof_without") (qual:="Desk.proof_without") (st:=HC.zba) ?q47_e ?q47_i ?q47_l ?q47_c ?q47_k) (fun m_proof_without=>?q47_n)
  (case q47_e=>k_is);(case q47_i=>k_is);(case q47_l=>k_is);(case q47_c=>k_is);(case q47_k=>k_is)
  refine' HC.use (HC.zen k_Desk.cl (m:="has_wrong_bit") (qual:="Desk.has_wrong_bit") (st:=HC.zbb) ?q48_e ?q48_i ?q48_l ?q48_c ?q48_k) (fun m_has_wrong_bit=>?q48_n)
  (case q48_e=>k_is);(case q48_i=>k_is);(case q48_l=>k_is);(case q48_c=>k_is);(case q48_k=>k_is)
  refine' HC.use (HC.zen k_Desk.cl (m:="tell_text") (qual:="Desk.tell_text") (st:=HC.zby) ?q49_e ?q49_i ?q49_l ?q49_c ?q49_k) (fun m_tell_text=>?q49_n)
  (case q49_e=>k_is);(case q49_i=>k_is);(case q49_l=>k_is);(case q49_c=>k_is);(case q49_k=>k_is)
  refine' HC.use (HC.zen k_Desk.cl (m:="tell_sizes") (qual:="Desk.tell_sizes") (st:=HC.zbo) ?q50_e ?q50_i ?q50_l ?q50_c ?q50_k) (fun m_tell_sizes=>?q50_n)
  (case q50_e=>k_is);(case q50_i=>k_is);(case q50_l=>k_is);(case q50_c=>k_is);(case q50_k=>k_is)
  refine' HC.use (HC.zen k_Desk.cl (m:="tell_claim") (qual:="Desk.tell_claim") (st:=HC.zbp) ?q51_e ?q51_i ?q51_l ?q51_c ?q51_k) (fun m_tell_claim=>?q51_n)
  (case q51_e=>k_is);(case q51_i=>k_is);(case q51_l=>k_is);(case q51_c=>k_is);(case q51_k=>k_is)
  refine' HC.use (HC.zen k_Desk.cl (m:="tell_rules") (qual:="Desk.tell_rules") (st:=HC.zbg) ?q52_e ?q52_i ?q52_l ?q52_c ?q52_k) (fun m_tell_rules=>?q52_n)
  (case q52_e=>k_is);(case q52_i=>k_is);(case q52_l=>k_is);(case q52_c=>k_is);(case q52_k=>k_is)
  refine' HC.use (HC.zen k_Desk.cl (m:="tell_witness") (qual:="Desk.tell_witness") (st:=HC.za1) ?q53_e ?q53_i ?q53_l ?q53_c ?q53_k) (fun m_tell_witness=>?q53_n)
  (case q53_e=>k_is);(case q53_i=>k_is);(case q53_l=>k_is);(case q53_c=>k_is);(case q53_k=>k_is)
  refine' HC.use (HC.zen k_Desk.cl (m:="tell_boat") (qual:="Desk.tell_boat") (st:=HC.zbz) ?q54_e ?q54_i ?q54_l ?q54_c ?q54_k) (fun m_tell_boat=>?q54_n)
  (case q54_e=>k_is);(case q54_i=>k_is);(case q54_l=>k_is);(case q54_c=>k_is);(case q54_k=>k_is)
  refine' HC.use (HC.zen k_Desk.cl (m:="take") (qual:="Desk.take") (st:=HC.zei) ?q55_e ?q55_i ?q55_l ?q55_c ?q55_k) (fun m_take=>?q55_n)
  (case q55_e=>k_is);(case q55_i=>k_is);(case q55_l=>k_is);(case q55_c=>k_is);(case q55_k=>k_is)
  refine' HC.use (HC.zen k_Desk.cl (m:="more") (qual:="Desk.more") (st:=HC.zej) ?q56_e ?q56_i ?q56_l ?q56_c ?q56_k) (fun m_more=>?q56_n)
  (case q56_e=>k_is);(case q56_i=>k_is);(case q56_l=>k_is);(case q56_c=>k_is);(case q56_k=>k_is)
  refine' HC.use (HC.za6 (x:="end_of_call") (st:=HC.zc2) KX G ?q57_e ?q57_l ?q57_c ?q57_k) (fun d_end_of_call=>?q57_n)
  (case q57_e=>k_is);(case q57_l=>k_is);(case q57_c=>k_is);(case q57_k=>k_is)
  refine' HC.use (HC.za6 (x:="sets_of") (st:=HC.zg3) KX G ?q58_e ?q58_l ?q58_c ?q58_k) (fun d_sets_of=>?q58_n)
  (case q58_e=>k_is);(case q58_l=>k_is);(case q58_c=>k_is);(case q58_k=>k_is)
  refine' HC.use (HC.zen k_Desk.cl (m:="tell_turn") (qual:="Desk.tell_turn") (st:=HC.zbx) ?q59_e ?q59_i ?q59_l ?q59_c ?q59_k) (fun m_tell_turn=>?q59_n)
  (case q59_e=>k_is);(case q59_i=>k_is);(case q59_l=>k_is);(case q59_c=>k_is);(case q59_k=>k_is)
  refine' HC.use (HC.za6 (x:="answer_of") (st:=HC.zeh) KX G ?q60_e ?q60_l ?q60_c ?q60_k) (fun d_answer_of=>?q60_n)
  (case q60_e=>k_is);(case q60_l=>k_is);(case q60_c=>k_is);(case q60_k=>k_is)
  refine' HC.use (HC.zas (x:="PROVED") (n:=1) KX G ?q61_e) (fun y_g_PROVED=>?q61_n)
  (case q61_e=>k_is)
  refine' HC.use (HC.zas (x:="REFUTED") (n:=2) KX G ?q62_e) (fun y_g_REFUTED=>?q62_n)
  (case q62_e=>k_is)
  refine' HC.use (HC.zas (x:="OPEN") (n:=3) KX G ?q63_e) (fun y_g_OPEN=>?q63_n)
  (case q63_e=>k_is)
  refine' HC.use (HC.zas (x:="BY_SIGHT") (n:=1) KX G ?q64_e) (fun y_g_BY_SIGHT=>?q64_n)
  (case q64_e=>k_is)
  refine' HC.use (HC.zas (x:="BY_RULES") (n:=2) KX G ?q65_e) (fun y_g_BY_RULES=>?q65_n)
  (case q65_e=>k_is)
  refine' HC.use (HC.zas (x:="BY_WITNESSES") (n:=3) KX G ?q66_e) (fun y_g_BY_WITNESSES=>?q66_n)
  (case q66_e=>k_is)
  refine' HC.use (HC.zas (x:="MOST_CLAIMS") (n:=64) KX G ?q67_e) (fun y_g_MOST_CLAIMS=>?q67_n)
  (case q67_e=>k_is)
  refine' HC.use (HC.zas (x:="MOST_WITNESSES") (n:=8) KX G ?q68_e) (fun y_g_MOST_WITNESSES=>?q68_n)
  (case q68_e=>k_is)
  refine' HC.use (HC.zas (x:="MOST_LINES") (n:=512) KX G ?q69_e) (fun y_g_MOST_LINES=>?q69_n)
  (case q69_e=>k_is)
  refine' HC.use (HC.zas (x:="NOTHING_WRONG") (n:=0) KX G ?q70_e) (fun y_g_NOTHING_WRONG=>?q70_n)
  (case q70_e=>k_is)
  refine' HC.use (HC.zas (x:="NOT_FORMED") (n:=1) KX G ?q71_e) (fun y_g_NOT_FORMED=>?q71_n)
  (case q71_e=>k_is)
  refine' HC.use (HC.zas (x:="TOO_MUCH") (n:=2) KX G ?q72_e) (fun y_g_TOO_MUCH=>?q72_n)
  (case q72_e=>k_is)
  refine' HC.use (HC.zas (x:="CANNOT_STAND") (n:=3) KX G ?q73_e) (fun y_g_CANNOT_STAND=>?q73_n)
  (case q73_e=>k_is)
  refine' HC.use (HC.zas (x:="CLASHES") (n:=4) KX G ?q74_e) (fun y_g_CLASHES=>?q74_n)
  (case q74_e=>k_is)
  refine' HC.use (HC.zas (x:="TAKE") (n:=0) KX G ?q75_e) (fun y_g_TAKE=>?q75_n)
  (case q75_e=>k_is)
  refine' HC.use (HC.zas (x:="MORE") (n:=1) KX G ?q76_e) (fun y_g_MORE=>?q76_n)
  (case q76_e=>k_is)
  refine' HC.use (HC.zas (x:="TEXT") (n:=2) KX G ?q77_e) (fun y_g_TEXT=>?q77_n)
  (case q77_e=>k_is)
  refine' HC.use (HC.zas (x:="SIZES") (n:=3) KX G ?q78_e) (fun y_g_SIZES=>?q78_n)
  (case q78_e=>k_is)
  refine' HC.use (HC.zas (x:="CLAIM") (n:=4) KX G ?q79_e) (fun y_g_CLAIM=>?q79_n)
  (case q79_e=>k_is)
  refine' HC.use (HC.zas (x:="RULES") (n:=5) KX G ?q80_e) (fun y_g_RULES=>?q80_n)
  (case q80_e=>k_is)
  refine' HC.use (HC.zas (x:="BOAT") (n:=6) KX G ?q81_e) (fun y_g_BOAT=>?q81_n)
  (case q81_e=>k_is)
  refine' HC.use (HC.zas (x:="WITNESS") (n:=7) KX G ?q82_e) (fun y_g_WITNESS=>?q82_n)
  (case q82_e=>k_is)
  refine' HC.use (HC.zas (x:="TURN") (n:=8) KX G ?q83_e) (fun y_g_TURN=>?q83_n)
  (case q83_e=>k_is)
  refine' HC.use (HC.zas (x:="DONE") (n:=0) KX G ?q84_e) (fun y_g_DONE=>?q84_n)
  (case q84_e=>k_is)
  refine' HC.use (HC.zas (x:="TOO_LONG") (n:=(-2)) KX G ?q85_e) (fun y_g_TOO_LONG=>?q85_n)
  (case q85_e=>k_is)
  refine' HC.use (HC.zas (x:="NONE_TURNS") (n:=(-3)) KX G ?q86_e) (fun y_g_NONE_TURNS=>?q86_n)
  (case q86_e=>k_is)
  refine' HC.use (HC.zas (x:="NO_SUCH") (n:=(-4)) KX G ?q87_e) (fun y_g_NO_SUCH=>?q87_n)
  (case q87_e=>k_is)
  refine' HC.use (HC.zas (x:="FAULTY") (n:=(-6)) KX G ?q88_e) (fun y_g_FAULTY=>?q88_n)
  (case q88_e=>k_is)
  refine' HC.use (HC.zas (x:="WRONG_BITS_OR_NAME") (n:=(-8)) KX G ?q89_e) (fun y_g_WRONG_BITS_OR_NAME=>?q89_n)
  (case q89_e=>k_is)
  refine' HC.use (HC.zas (x:="MOST_BYTES") (n:=65536) KX G ?q90_e) (fun y_g_MOST_BYTES=>?q90_n)
  (case q90_e=>k_is)
  refine' HC.use (PySem.W.mg_none_of (n:="len") KX G ?q91_e) (fun y_b_len=>?q91_n)
  (case q91_e=>k_is)
  refine' HC.use (PySem.W.mg_none_of (n:="ord") KX G ?q92_e) (fun y_b_ord=>?q92_n)
  (case q92_e=>k_is)
  refine' HC.use (PySem.W.mg_none_of (n:="max") KX G ?q93_e) (fun y_b_max=>?q93_n)
  (case q93_e=>k_is)
  refine' HC.use (PySem.W.mg_none_of (n:="any") KX G ?q94_e) (fun y_b_any=>?q94_n)
  (case q94_e=>k_is)
  refine' HC.use (PySem.W.mg_none_of (n:="sorted") KX G ?q95_e) (fun y_b_sorted=>?q95_n)
  (case q95_e=>k_is)
  refine' HC.use (PySem.W.mg_none_of (n:="range") KX G ?q96_e) (fun y_b_range=>?q96_n)
  (case q96_e=>k_is)
  refine' HC.use (PySem.W.mg_none_of (n:="list") KX G ?q97_e) (fun y_b_list=>?q97_n)
  (case q97_e=>k_is)
  refine' HC.use (PySem.W.mg_none_of (n:="enumerate") KX G ?q98_e) (fun y_b_enumerate=>?q98_n)
  (case q98_e=>k_is)
  refine' HC.use (HC.TxtR.mk y_g_PROVED y_g_REFUTED y_g_OPEN y_g_BY_SIGHT y_g_BY_RULES y_g_BY_WITNESSES y_g_MOST_CLAIMS y_g_MOST_WITNESSES y_g_MOST_LINES y_g_NOTHING_WRONG y_g_NOT_FORMED y_g_TOO_MUCH y_g_CANNOT_STAND y_g_CLASHES y_g_TAKE y_g_MORE y_g_TEXT y_g_SIZES y_g_CLAIM y_g_RULES y_g_BOAT y_g_WITNESS y_g_TURN y_g_DONE y_g_TOO_LONG y_g_NONE_TURNS y_g_NO_SUCH y_g_FAULTY y_g_WRONG_BITS_OR_NAME y_g_MOST_BYTES y_b_len y_b_ord y_b_max y_b_any y_b_sorted y_b_range y_b_list y_b_enumerate) (fun txtR=>?qR_n);refine' HC.use (PySem.W.mg_of (n:="NO_CLAIM_NAMES") KX G ?q99_e) (fun y_g_NO_CLAIM_NAMES=>?q99_n)
  (case q99_e=>k_is)
  refine' HC.use (HC.tupg_mk (xs:=["not","open","if"]) KX y_g_NO_CLAIM_NAMES ?q100_l ?q100_z ?q100_v) (fun y_t_NO_CLAIM_NAMES=>?q100_n)
  (case q100_l=>k_is);(case q100_z=>decide);(case q100_v=>exact .cons ⟨_,rfl⟩ (.cons ⟨_,rfl⟩ (.cons ⟨_,rfl⟩ .nil)))
  refine' HC.use (PySem.W.mg_of (n:="FORMS") KX G ?q101_e) (fun y_g_FORMS=>?q101_n)
  (case q101_e=>k_is)
  refine' HC.use (HC.forms_mk KX y_g_FORMS ?qF_l ?qF_sys ?qF_z (HC.zdi ?qF_l0 ?qF_z0 ?qF_v0) (HC.zdi ?qF_l1 ?qF_z1 ?qF_v1) (HC.zdi ?qF_l2 ?qF_z2 ?qF_v2) (HC.zdi ?qF_l3 ?qF_z3 ?qF_v3) (HC.zdi ?qF_l4 ?qF_z4 ?qF_v4) (HC.zdi ?qF_l5 ?qF_z5 ?qF_v5) (HC.zdi ?qF_l6 ?qF_z6 ?qF_v6) (HC.zdi ?qF_l7 ?qF_z7 ?qF_v7) (HC.zdi ?qF_l8 ?qF_z8 ?qF_v8) (HC.zdi ?qF_l9 ?qF_z9 ?qF_v9)) (fun y_forms=>?qF_n)
  (case qF_l=>k_is);(case qF_sys=>decide);(case qF_z=>rfl)
  (case qF_l0=>k_is);(case qF_z0=>decide);(case qF_v0=>exact .cons ⟨_,rfl⟩ (.nil))
  (case qF_l1=>k_is);(case qF_z1=>decide);(case qF_v1=>exact .cons ⟨_,rfl⟩ (.cons ⟨_,rfl⟩ (.nil)))
  (case qF_l2=>k_is);(case qF_z2=>decide);(case qF_v2=>exact .cons ⟨_,rfl⟩ (.cons ⟨_,rfl⟩ (.nil)))
  (case qF_l3=>k_is);(case qF_z3=>decide);(case qF_v3=>exact .cons ⟨_,rfl⟩ (.cons ⟨_,rfl⟩ (.nil)))
  (case qF_l4=>k_is);(case qF_z4=>decide);(case qF_v4=>exact .cons ⟨_,rfl⟩ (.nil))
  (case qF_l5=>k_is);(case qF_z5=>decide);(case qF_v5=>exact .cons ⟨_,rfl⟩ (.nil))
  (case qF_l6=>k_is);(case qF_z6=>decide);(case qF_v6=>exact .cons ⟨_,rfl⟩ (.cons ⟨_,rfl⟩ (.nil)))
  (case qF_l7=>k_is);(case qF_z7=>decide);(case qF_v7=>exact .cons ⟨_,rfl⟩ (.cons ⟨_,rfl⟩ (.nil)))
  (case qF_l8=>k_is);(case qF_z8=>decide);(case qF_v8=>exact .cons ⟨_,rfl⟩ (.cons ⟨_,rfl⟩ (.cons ⟨_,rfl⟩ (.nil))))
  (case qF_l9=>k_is);(case qF_z9=>decide);(case qF_v9=>exact .cons ⟨_,rfl⟩ (.cons ⟨_,rfl⟩ (.nil)))
  refine' HC.use (HC.zas (x:="PROVED") (n:=1) KX G ?q102_e) (fun y_g_PROVED=>?q102_n)
  (case q102_e=>k_is)
  refine' HC.use (HC.zas (x:="REFUTED") (n:=2) KX G ?q103_e) (fun y_g_REFUTED=>?q103_n)
  (case q103_e=>k_is)
  refine' HC.use (HC.zas (x:="OPEN") (n:=3) KX G ?q104_e) (fun y_g_OPEN=>?q104_n)
  (case q104_e=>k_is)
  refine' HC.use (HC.zas (x:="LONGEST_NAME") (n:=12) KX G ?q105_e) (fun y_g_LONGEST_NAME=>?q105_n)
  (case q105_e=>k_is)
  refine' HC.use (HC.zas (x:="MOST_CONDITIONS") (n:=8) KX G ?q106_e) (fun y_g_MOST_CONDITIONS=>?q106_n)
  (case q106_e=>k_is)
  refine' HC.use (HC.zas (x:="MOST_WEIGHT") (n:=9) KX G ?q107_e) (fun y_g_MOST_WEIGHT=>?q107_n)
  (case q107_e=>k_is)
  refine' HC.use (HC.zas (x:="MOST_POINTS") (n:=99) KX G ?q108_e) (fun y_g_MOST_POINTS=>?q108_n)
  (case q108_e=>k_is)
  refine' HC.use (HC.zt5 (x:="NAME_SIGNS") (n:="abcdefghijklmnopqrstuvwxyz0123456789") KX G ?q109_e ?q109_z) (fun y_g_NAME_SIGNS=>?q109_n)
  (case q109_e=>k_is);(case q109_z=>rfl)
  refine' HC.use (HC.zt5 (x:="TEXT_SIGNS") (n:="abcdefghijklmnopqrstuvwxyz0123456789 \n") KX G ?q110_e ?q110_z) (fun y_g_TEXT_SIGNS=>?q110_n)
  (case q110_e=>k_is);(case q110_z=>rfl)
  refine' HC.use (HC.zt5 (x:="STRANGE_SIGN") (n:="?") KX G ?q111_e ?q111_z) (fun y_g_STRANGE_SIGN=>?q111_n)
  (case q111_e=>k_is);(case q111_z=>rfl)
  refine' HC.use (PySem.W.mg_none_of (n:="len") KX G ?q112_e) (fun y_b_len=>?q112_n)
  (case q112_e=>k_is)
  refine' HC.use (PySem.W.mg_none_of (n:="ord") KX G ?q113_e) (fun y_b_ord=>?q113_n)
  (case q113_e=>k_is)
  refine' HC.use (PySem.W.mg_none_of (n:="str") KX G ?q114_e) (fun y_b_str=>?q114_n)
  (case q114_e=>k_is)
  refine' HC.use (PySem.W.mg_none_of (n:="int") KX G ?q115_e) (fun y_b_int=>?q115_n)
  (case q115_e=>k_is)
  refine' HC.use (PySem.W.mg_none_of (n:="enumerate") KX G ?q116_e) (fun y_b_enumerate=>?q116_n)
  (case q116_e=>k_is)
  obtain ⟨fq,y_t_FORMS,y_p_FORMS⟩:=y_forms;refine' HC.top_mk KX G hmg ?qT_e ?qT_l ?qT_c ?qT_k (ad:=⟨_,_,fq,_⟩) (cd:=⟨_,_,_,_,_,_⟩) ⟨HC.TxtF.mk y_g_NO_CLAIM_NAMES y_t_NO_CLAIM_NAMES y_g_FORMS y_t_FORMS y_p_FORMS y_g_PROVED y_g_REFUTED y_g_OPEN y_g_LONGEST_NAME y_g_MOST_CONDITIONS y_g_MOST_WEIGHT y_g_MOST_POINTS y_g_NAME_SIGNS y_g_TEXT_SIGNS y_g_STRANGE_SIGN y_b_len y_b_ord y_b_str y_b_int y_b_enumerate,txtR,cLine,cClaim,cRule,cBoat,cCase,cProof,cDesk,d_wanted_by,d_is_name,d_is_claim_name,d_number_from,d_read_conditions,k_Line,d_fill_part,d_read_line,d_signs_of,d_fact,k_Claim,k_Rule,k_Boat,k_Case,k_Proof,d_claim_of,d_can_stand,d_clashes,d_is_too_much,d_what_is_wrong,d_enter_claim,d_enter_witness,d_enter_words,d_needed_by,d_enter_rule,d_enter_boat,d_enter_line,d_enter_text,d_all_hold,d_going_rules,d_verdict_of_rules,d_verdict_of_witnesses,d_settle_claim,d_settle,d_penalty_of,d_has_redress,d_members_of,d_rank_of,m_proof_without,m_has_wrong_bit,m_tell_text,m_tell_sizes,m_tell_claim,m_tell_rules,m_tell_witness,m_tell_boat,k_Desk,m_take,m_more,d_end_of_call,d_sets_of,m_tell_turn,d_answer_of⟩
  (case qT_e=>k_is);(case qT_l=>k_is);(case qT_c=>k_is);(case qT_k=>k_is)
 case S=>
  intro K H xs a hO hwi hask hx;cases hx with
  | cons h1 h2=>
   cases h2;cases h1 with
   | lst hs ha=>
    have e:=L2.ints_dw a.1 _ ha;subst e;exact ⟨_,a.1,rfl,hs,hask,fun H' p hp=>.lst (L2.SqL.of hp) (L2.dw_ints _)⟩
end
