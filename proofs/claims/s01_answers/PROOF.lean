import PyProof.Rows.All
import Wide.All
import OpenK.AllK
import Wide.FinOn
import PyProof.EqAt
import PyProof.EqKinds
import PyProof.TupleCall
import KE.BitLaws
import KE.IntBitsLaws
import PyProof.Draws
import KE.KLam
import KE.KSortKeySt
import KE.KRevIter
import PyProof.ListRange
import Open.SpecLaws
import KE.OsHead
import KE.OsGo
import PySem.Challenge.RW_roombetween_s01_answers
set_option Elab.async false
set_option linter.all false
set_option maxRecDepth 100000
set_option maxHeartbeats 4000000
namespace L2
open PySem PySem.Spec PyProof.Rows
abbrev Key:=Sum Int Str
def keyIs:Key→Value→Bool
 | .inl k,v=>Value.isInt k v
 | .inr x,v=>Value.isStrOf x v
def keyH (w:World):Key→Int
 | .inl k=>hashInt k
 | .inr x=>hashStr w x
theorem keyIs_shape:∀{k:Key} {v:Value},keyIs k v=true→(∃i t,k=Sum.inl i∧v=Value.int i t)∨(∃x t,k=Sum.inr x∧v=Value.str x t)
 |
  .inl i,v,h=>by
  obtain⟨t,e⟩:=Value.isInt_shape (k:=i) (v:=v) h
  exact .inl ⟨i,t,rfl,e⟩
 |
  .inr x,v,h=>by
  obtain⟨t,e⟩:=Value.isStrOf_shape (x:=x) (v:=v) h
  exact .inr ⟨x,t,rfl,e⟩
theorem keyIs_int (i:Int)(t:Tok):keyIs (.inl i) (.int i t)=true:=by simp[keyIs,Value.isInt]
theorem keyIs_str (x:Str)(t:Tok):keyIs (.inr x) (.str x t)=true:=by simp[keyIs,Value.isStrOf]
theorem key_ll (a b:Int):decide ((Sum.inl a:Key)=Sum.inl b)=(a==b):=by
 by_cases e:a=b
 ·
  subst e;simp
 ·
  have h:¬(Sum.inl a:Key)=Sum.inl b:=fun q=>e (Sum.inl.inj q)
  rw[decide_eq_false h]
  exact (beq_eq_false_iff_ne.mpr e).symm
theorem key_rr (a b:Str):decide ((Sum.inr a:Key)=Sum.inr b)=decide (a=b):=by
 by_cases e:a=b
 ·
  subst e;simp
 ·
  have h:¬(Sum.inr a:Key)=Sum.inr b:=fun q=>e (Sum.inr.inj q)
  rw[decide_eq_false h,decide_eq_false e]
theorem key_lr (a:Int)(b:Str):decide ((Sum.inl a:Key)=Sum.inr b)=false:=decide_eq_false (fun q=>nomatch q)
theorem key_rl (a:Str)(b:Int):decide ((Sum.inr a:Key)=Sum.inl b)=false:=decide_eq_false (fun q=>nomatch q)
def mixKind (prog:Program)(w:World):PySem.KeyKind prog w Key where
 is:=keyIs
 hash:=keyH w
 inj:=fun v a b ha hb=>by
  rcases keyIs_shape ha with ⟨i,t,rfl,rfl⟩ | ⟨x,t,rfl,rfl⟩
  ·
   rcases keyIs_shape hb with ⟨j,u,rfl,e⟩ | ⟨y,u,rfl,e⟩
   ·
    injection e with e1 _;rw[e1]
   ·
    exact nomatch e
  ·
   rcases keyIs_shape hb with ⟨j,u,rfl,e⟩ | ⟨y,u,rfl,e⟩
   ·
    exact nomatch e
   ·
    injection e with e1 _;rw[e1]
 byValue:=fun k v h=>by
  rcases keyIs_shape h with ⟨i,t,rfl,rfl⟩ | ⟨x,t,rfl,rfl⟩<;>rfl
 pyHash:=fun hv h=>by
  rcases keyIs_shape hv with ⟨i,t,rfl,rfl⟩ | ⟨x,t,rfl,rfl⟩
  ·
   exact wpAny_pyHash_int h
  ·
   exact wpAny_pyHash_str h
 eqBool:=fun hu hv h=>by
  rcases keyIs_shape hu with ⟨i,t,rfl,rfl⟩ | ⟨x,t,rfl,rfl⟩
  ·
   rcases keyIs_shape hv with ⟨j,u,rfl,rfl⟩ | ⟨y,u,rfl,rfl⟩
   ·
    rw[key_ll] at h;exact wpAny_eqBool_int h
   ·
    rw[key_lr] at h;exact SeqAt.EqAt.int_str i t y u _ _ _ _ h
  ·
   rcases keyIs_shape hv with ⟨j,u,rfl,rfl⟩ | ⟨y,u,rfl,rfl⟩
   ·
    rw[key_rl] at h;exact SeqAt.EqAt.str_int x t j u _ _ _ _ h
   ·
    rw[key_rr] at h;exact wpAny_eqBool_str h
 «strs»:=fun k x t v h=>by
  rcases keyIs_shape h with ⟨i,u,rfl,e⟩ | ⟨y,u,rfl,e⟩
  ·
   exact nomatch e
  ·
   injection e with e1 _
   subst e1
   cases v<;>rfl
theorem mixKind_int (prog:Program)(w:World)(i:Int)(t:Tok):(mixKind prog w).is (.inl i) (.int i t)=true:=keyIs_int i t
theorem mixKind_str (prog:Program)(w:World)(x:Str)(t:Tok):(mixKind prog w).is (.inr x) (.str x t)=true:=keyIs_str x t
end L2
namespace L2
open PySem PySem.Spec PyProof.Rows
inductive V where
 | non | bl (b:Bool) | int (i:Int) | str (x:Str) | byt (b:Array UInt8) | flt (b:UInt64) | ref (a:Addr) | ty (n:String)
 deriving DecidableEq
def AW:V→Value→Prop
 | .non,u=>u=Value.none
 | .bl b,u=>u=Value.bool b
 | .int i,u=>∃t,u=Value.int i t
 | .str x,u=>∃t,u=Value.str x t
 | .byt b,u=>∃t,u=Value.bytes b t
 | .flt b,u=>∃t,u=Value.float b t
 | .ref a,u=>u=Value.ref a
 | .ty n,u=>u=Value.type n
abbrev AG:List V→List Value→Prop:=Paired AW
theorem AG.length {xs:List V}{us:List Value}(r:AG xs us):xs.length=us.length:=Paired.length r
theorem AG.get:∀{xs:List V} {us:List Value} {i:Nat} {x:V},AG xs us→xs[i]?=some x→∃u,us[i]?=some u∧AW x u
 | _,_,_,_,.nil,e=>by simp at e
 | _,_,0,_,.cons r _,e=>by simp at e;subst e;exact⟨_,rfl,r⟩
 |
  _,_,i+1,x,.cons _ t,e=>by
  obtain⟨u,h1,h2⟩:=AG.get (i:=i) (x:=x) t (by simpa using e)
  exact⟨u,by simpa using h1,h2⟩
theorem AG.set {x:V}{u:Value}(r:AW x u):∀{xs:List V} {us:List Value} (i:Nat),AG xs us→AG (xs.set i x) (us.set i u)
 | _,_,_,.nil=>.nil
 | _,_,0,.cons _ t=>.cons r t
 | _,_,i+1,.cons q t=>.cons q (AG.set r i t)
theorem AG.append:∀{xs ys:List V} {us ws:List Value},AG xs us→AG ys ws→AG (xs++ys) (us++ws)
 | _,_,_,_,.nil,s=>s
 | _,_,_,_,.cons r t,s=>.cons r (AG.append t s)
theorem AG.take:∀{xs:List V} {us:List Value} (n:Nat),AG xs us→AG (xs.take n) (us.take n)
 | _,_,0,_=>.nil
 | _,_,_+1,.nil=>.nil
 | _,_,n+1,.cons r t=>.cons r (AG.take n t)
theorem AG.drop:∀{xs:List V} {us:List Value} (n:Nat),AG xs us→AG (xs.drop n) (us.drop n)
 | _,_,0,r=>r
 | _,_,_+1,.nil=>.nil
 | _,_,n+1,.cons _ t=>AG.drop n t
def RelO:Option V→Option Value→Prop
 | some v,some u=>AW v u
 | none,none=>True
 | _,_=>False
def KV {κ:Type}:List (κ×V)→List (κ×Value)→Prop:=Paired fun (p:κ×V) (q:κ×Value)=>p.1=q.1∧AW p.2 q.2
def kV:Key→V
 | .inl i=>.int i
 | .inr x=>.str x
inductive HO where
  | lst (xs:List V)
  | tup (xs:List V)
  | dK (kvs:List (Key×V)) | dT (kvs:List (List Key×V))
  | set (S:Int→Bool) (n:Nat)
  | ins (C dx:Addr) (fs:List (Str×V))
  | own (x:Addr)
  | xd (fs:List (Str×V))
  | met (f x:Addr)
  | rng (lo hi:Int)
  | frz (o:Obj) (u:HO)
  | tbl (ps:Array Value)
  | ext (φ:Heap→Prop)
abbrev Hp:=Addr→Option HO
def upd (H:Hp)(a:Addr)(o:HO):Hp:=fun b=>if b=a then some o else H b
theorem Ab {H:Hp}{a:Addr}{o:HO}:upd H a o a=some o:=by unfold upd;rw[if_pos rfl]
theorem Ai {H:Hp}{a b:Addr}{o:HO}(h:b≠a):upd H a o b=H b:=by unfold upd;rw[if_neg h]
theorem upd_upd {H:Hp}{a:Addr}{o u:HO}:upd (upd H a o) a u=upd H a u:=by
 funext b;unfold upd;split<;>rfl
theorem Aj {H:Hp}{a b:Addr}{o:HO}(h:H a=some o)(h':H b=none):a≠b:=by
 intro e;subst e;rw[h] at h';cases h'
section
variable (P:Program)(w:World)
def ObjOk (H:Hp)(h:Heap)(a:Addr):HO→Prop
 | .lst xs=>xs.length≤sizeLine∧∃(its:List Value) (n:Nat),AG xs its∧h.get? a=some {cls:=.type "list",data:=.seq its.toArray n}
 | .tup xs=>xs.length≤sizeLine∧∃its:List Value,AG xs its∧IsTup h a its.toArray∧∀o,h.get? a=some o→o.dict=none
 | .dK kvs=>kvs.length≤sizeLine∧(a==sysModules)=false∧∃vs,KV kvs vs∧h.DictOf (mixKind P w) a vs
 | .dT kvs=>kvs.length≤sizeLine∧(a==sysModules)=false∧∃xs:List (List Key×Addr×Value),
   Paired (fun (p:List Key×V) (q:List Key×Addr×Value)=>p.1=q.1∧H q.2.1=some (.tup (p.1.map kV))∧AW p.2 q.2.2) kvs xs∧
   ∃o es ep,h.get? a=some o∧o.ExactDict∧o.data=.dict es ep∧es.toList=xs.map (entryOfKey (tupleKind (mixKind P w)))∧(xs.map (·.1)).Nodup
 | .set S n=>h.SetOf (intKind P w) a S n
 | .ins C dx fs=>H dx=some (.own a)∧fs.length≤1000∧dx≠a∧h.get? a=some (PySem.W.instObj C dx)∧
   ∃mA,h.Ns1 dx mA∧(∀f,RelO (fs.lookup f) (mA f))∧PySem.Within mA (fs.map (·.1))
 | .own _=>∃o,h.get? a=some o
 | .xd fs=>∃mA,h.Ns1 a mA∧∀f,RelO (fs.lookup f) (mA f)
 | .rng lo hi=>∃t u v,h.get? a=some {cls:=.type "range",data:=.fields #[.int lo t,.int hi u,.int 1 v]}
 | .frz o u=>h.get? a=some o∧ObjOk H h a u
 | .tbl ps=>h.get? a=some {cls:=.none,data:=.fields ps}
 | .met f x=>h.get? a=some (PySem.W.methodObj (.ref f) (.ref x))
 | .ext φ=>φ h∧(∃o,h.get? a=some o)∧∀h1 h2:Heap,φ h1→(∀o,h1.get? a=some o→h2.get? a=some o)→φ h2
def HOk (H:Hp)(h:Heap):Prop:=∀a o,H a=some o→ObjOk P w H h a o
end
section
variable {P:Program}{w:World}{H H':Hp}{h h':Heap}{a:Addr}{o:HO}
theorem ObjOk.lt (x:ObjOk P w H h a o):a<h.objs.size:=by
 cases o with
 | lst xs=>obtain⟨_,_,_,_,e⟩:=x;exact Heap.lt_size e
 | tup xs=>obtain⟨_,_,_,p,_⟩:=x;exact p.lt
 | dK kvs=>obtain⟨_,_,_,_,o,_,_,e,_⟩:=x;exact Heap.lt_size e
 | dT kvs=>obtain⟨_,_,_,_,o,_,_,e,_⟩:=x;exact Heap.lt_size e
 | set S n=>obtain⟨o,_,_,_,e,_⟩:=x;exact Heap.lt_size e
 | ins C dx fs=>obtain⟨_,_,_,e,_⟩:=x;exact Heap.lt_size e
 | own y=>obtain⟨_,e⟩:=x;exact Heap.lt_size e
 | xd fs=>obtain⟨_,⟨_,_,_,e,_⟩,_⟩:=x;exact Heap.lt_size e
 | rng lo hi=>obtain⟨_,_,_,e⟩:=x;exact Heap.lt_size e
 | frz ob u=>obtain⟨e,_⟩:=x;exact Heap.lt_size e
 | tbl ps=>exact Heap.lt_size (show h.get? a=some _ from x)
 | met f y=>exact Heap.lt_size (show h.get? a=some _ from x)
 | ext φ=>obtain⟨_,⟨_,e⟩,_⟩:=x;exact Heap.lt_size e
theorem Paired.mapP {α β:Type}{F G:α→β→Prop}:∀{l₁:List α} {l₂:List β},Paired F l₁ l₂→(∀a b,F a b→G a b)→Paired G l₁ l₂
 | _,_,.nil,_=>.nil
 | _,_,.cons r t,f=>.cons (f _ _ r) (Paired.mapP t f)
theorem ObjOk.stay (x:ObjOk P w H h a o)(k:∀b u,(b=a∨H b=some (.own a))→h.get? b=some u→h'.get? b=some u)
  (ho:∀b,H b=some (.own a)→H' b=some (.own a))(ht:∀b xs,H b=some (.tup xs)→H' b=some (.tup xs)):ObjOk P w H' h' a o:=by
 induction o with
 | lst xs=>obtain⟨z,its,n,r,e⟩:=x;exact⟨z,its,n,r,k _ _ (.inl rfl) e⟩
 | tup xs=>obtain⟨z,its,r,⟨ob,e,c⟩,d⟩:=x;exact⟨z,its,r,⟨ob,k _ _ (.inl rfl) e,c⟩,fun o q=>d o (by rw[k _ _ (.inl rfl) e] at q;rw[e];exact q)⟩
 | dK kvs=>obtain⟨z,y,vs,r,ob,es,ep,e,c⟩:=x;exact⟨z,y,vs,r,ob,es,ep,k _ _ (.inl rfl) e,c⟩
 |
  dT kvs=>
  obtain⟨z,y,xs,r,ob,es,ep,e,c⟩:=x
  exact⟨z,y,xs,Paired.mapP r fun p q z=>⟨z.1,ht _ _ z.2.1,z.2.2⟩,ob,es,ep,k _ _ (.inl rfl) e,c⟩
 | set S n=>obtain⟨ob,es,ep,t,e,c⟩:=x;exact⟨ob,es,ep,t,k _ _ (.inl rfl) e,c⟩
 |
  ins C dx fs=>
  obtain⟨d,z,ne,e,mA,⟨od,es,ep,e2,c⟩,r⟩:=x
  exact⟨ho _ d,z,ne,k _ _ (.inl rfl) e,mA,⟨od,es,ep,k _ _ (.inr d) e2,c⟩,r⟩
 | own y=>obtain⟨ob,e⟩:=x;exact⟨ob,k _ _ (.inl rfl) e⟩
 | xd fs=>obtain⟨mA,⟨od,es,ep,e,c⟩,r⟩:=x;exact⟨mA,⟨od,es,ep,k _ _ (.inl rfl) e,c⟩,r⟩
 | rng lo hi=>obtain⟨t,u,v,e⟩:=x;exact⟨t,u,v,k _ _ (.inl rfl) e⟩
 | frz ob u ih=>obtain⟨e,q⟩:=x;exact⟨k _ _ (.inl rfl) e,ih q⟩
 |
  tbl ps=>
  have e:h.get? a=some {cls:=.none,data:=.fields ps}:=x
  show h'.get? a=some {cls:=.none,data:=.fields ps}
  exact k a _ (.inl rfl) e
 |
  met f y=>
  have e:h.get? a=some (PySem.W.methodObj (.ref f) (.ref y)):=x
  show h'.get? a=some (PySem.W.methodObj (.ref f) (.ref y))
  exact k a _ (.inl rfl) e
 | ext φ=>obtain⟨p,⟨o,e⟩,st⟩:=x;exact⟨st _ _ p fun o q=>k _ _ (.inl rfl) q,⟨o,k _ _ (.inl rfl) e⟩,st⟩
theorem HOk.lt (x:HOk P w H h)(e:H a=some o):a<h.objs.size:=(x a o e).lt
theorem HOk.fresh (x:HOk P w H h)(e:h.objs.size≤a):H a=none:=by
 cases q:H a with
 | none=>rfl
 | some u=>exact absurd (Nat.lt_of_lt_of_le (x.lt q) e) (Nat.lt_irrefl _)
theorem HOk.kept (x:HOk P w H h)(k:∀b u,h.get? b=some u→h'.get? b=some u):HOk P w H h':=fun a o e=>
 (x a o e).stay (fun b u _ q=>k b u q) (fun _ q=>q) fun _ _ q=>q
theorem HOk.laid (x:HOk P w H h)(k:∀b u,h.get? b=some u→h'.get? b=some u)(hp:h.objs.size≤a)(new:ObjOk P w (upd H a o) h' a o):HOk P w (upd H a o) h':=fun b u e=>by
 have hn:=x.fresh hp
 by_cases hb:b=a
 ·
  subst hb;rw[Ab] at e;cases e;exact new
 ·
  rw[Ai hb] at e
  exact (x b u e).stay (fun c v _ q=>k c v q) (fun c q=>by rw[Ai (Aj q hn)];exact q) fun c xs q=>by rw[Ai (Aj q hn)];exact q
end
def Rd (H:Hp)(a:Addr)(u:HO):Prop:=H a=some u∨∃o,H a=some (.frz o u)
theorem Rd.ok {P:Program}{w:World}{H:Hp}{h:Heap}{a:Addr}{u:HO}(r:Rd H a u)(x:HOk P w H h):ObjOk P w H h a u:=by
 rcases r with r | ⟨o,r⟩
 ·
  exact x a u r
 ·
  obtain⟨_,q⟩:=x a _ r
  exact q
def Mut:Option HO→Prop
 | some (.lst _)=>True
 | some (.dK _)=>True
 | some (.dT _)=>True
 | some (.set _ _)=>True
 | some (.ins _ _ _)=>True
 | some (.ext _)=>True
 | _=>False
section
variable {P:Program}{w:World}{H:Hp}{h h':Heap}{x e:Addr}{o':HO}
theorem HOk.write (ok:HOk P w H h)(mu:Mut (H x))(he:e=x∨H e=some (.own x))(k:∀b u,b≠e→h.get? b=some u→h'.get? b=some u)(heo:∃u,h'.get? e=some u)
  (new:ObjOk P w (upd H x o') h' x o'):HOk P w (upd H x o') h':=fun b u q=>by
 have nown:∀c y,H c=some (.own y)→c≠x:=fun c y r z=>by subst z;rw[r] at mu;exact mu
 have ntup:∀c xs,H c=some (.tup xs)→c≠x:=fun c xs r z=>by subst z;rw[r] at mu;exact mu
 by_cases hb:b=x
 ·
  subst hb;rw[Ab] at q;cases q;exact new
 ·
  rw[Ai hb] at q
  by_cases hbe:b=e
  ·
   have q':H b=some (.own x):=by
    rcases he with z | z
    ·
     exact absurd (hbe.trans z) hb
    ·
     rw[hbe];exact z
   rw[q] at q';cases q'
   obtain⟨v,hv⟩:=heo
   exact⟨v,by rw[hbe];exact hv⟩
  ·
   refine (ok b u q).stay (fun c v hc r=>k c v ?_ r) (fun c r=>by rw[Ai (nown c b r)];exact r) fun c xs r=>by rw[Ai (ntup c xs r)];exact r
   rcases hc with rfl | hc
   ·
    exact hbe
   ·
    rintro rfl
    rcases he with z | z
    ·
     exact nown c b hc z
    ·
     rw[hc] at z;cases z;exact hb rfl
end
structure Un (fs ex:List Addr)(H H':Hp)(h h':Heap):Prop where
 keep:∀b o,h.get? b=some o→H b=none→b∉fs→b∉ex→h'.get? b=some o
 slot:∀b o,h.get? b=some o→H b=none→b∈fs→b∉ex→∃sl,h'.get? b=some {o with slots:=sl}
 free:∀b o,h.get? b=some o→H b=none→b∉ex→H' b=none
 there:∀b o,h.get? b=some o→b∉ex→∃o',h'.get? b=some o'
 tups:∀b xs,H b=some (.tup xs)→H' b=some (.tup xs)
 frzs:∀b o u,H b=some (.frz o u)→H' b=some (.frz o u)
 tbls:∀b ps,H b=some (.tbl ps)→∃more,H' b=some (.tbl (ps++more))
section
variable {fs fs' ex ex':List Addr}{H H1 H2:Hp}{h h1 h2 h':Heap}{a x e:Addr}{o:HO}
theorem Un.any (u:Un fs ex H H1 h h1){b:Addr}{ob:Obj}(q:h.get? b=some ob)(n:H b=none)(hx:b∉ex):∃sl,h1.get? b=some {ob with slots:=sl}:=by
 by_cases hb:b∈fs
 ·
  exact u.slot b ob q n hb hx
 ·
  exact⟨ob.slots,u.keep b ob q n hb hx⟩
theorem Un.kept (k:∀b u,h.get? b=some u→h'.get? b=some u):Un fs ex H H h h':=
 ⟨fun b ob q _ _ _=>k b ob q,fun b ob q _ _ _=>⟨ob.slots,k b ob q⟩,fun _ _ _ n _=>n,fun b ob q _=>⟨ob,k b ob q⟩,fun _ _ q=>q,fun _ _ _ q=>q,fun _ ps q=>⟨#[],by rw[q];simp⟩⟩
theorem Un.refl:Un fs ex H H h h:=Un.kept fun _ _ q=>q
theorem Un.laid (k:∀b u,h.get? b=some u→h'.get? b=some u)(hp:h.objs.size≤a)(hn:H a=none):Un fs ex H (upd H a o) h h' where
 keep:=fun b u q _ _ _=>k b u q
 slot:=fun b u q _ _ _=>⟨u.slots,k b u q⟩
 free:=fun b u q n _=>by rw[Ai (Nat.ne_of_lt (Nat.lt_of_lt_of_le (Heap.lt_size q) hp))];exact n
 there:=fun b u q _=>⟨u,k b u q⟩
 tups:=fun b xs q=>by rw[Ai (Aj q hn)];exact q
 frzs:=fun b u xs q=>by rw[Ai (Aj q hn)];exact q
 tbls:=fun b ps q=>⟨#[],by rw[Ai (Aj q hn),q];simp⟩
theorem Un.write (mu:Mut (H x))(he:e=x∨H e=some (.own x))(k:∀b u,b≠e→h.get? b=some u→h'.get? b=some u)(heo:∃u,h'.get? e=some u):Un fs ex H (upd H x o) h h':=by
 have hx:∀b,H b=none→b≠x:=fun b n z=>by subst z;rw[n] at mu;exact mu
 have hb:∀b,H b=none→b≠e:=fun b n z=>by
  subst z
  rcases he with r | r
  ·
   exact hx b n r
  ·
   rw[n] at r;cases r
 have hm:∀b u,H b=some u→¬Mut (some u)→b≠x:=fun b u q nm z=>by subst z;rw[q] at mu;exact nm mu
 refine⟨fun b u q n _ _=>k b u (hb b n) q,fun b u q n _ _=>⟨u.slots,k b u (hb b n) q⟩,fun b u q n _=>by rw[Ai (hx b n)];exact n,fun b u q _=>?_,
  fun b xs q=>by rw[Ai (hm b _ q fun z=>z)];exact q,fun b u xs q=>by rw[Ai (hm b _ q fun z=>z)];exact q,fun b ps q=>⟨#[],by rw[Ai (hm b _ q fun z=>z),q];simp⟩⟩
 by_cases hbe:b=e
 ·
  subst hbe;exact heo
 ·
  exact⟨u,k b u hbe q⟩
end
def trk (h:Heap)(H:Hp):List Addr:=(List.range h.objs.size).filter fun a=>(H a).isSome
def hidT (h:Heap)(H:Hp):Heap:=PySem.W.hideAll h (trk h H)
theorem hidT_size (h:Heap)(H:Hp):(hidT h H).objs.size=h.objs.size:=PySem.W.hideAll_size _ _
theorem hidT_get {h:Heap}{H:Hp}{b:Addr}{o:Obj}(e:h.get? b=some o)(n:H b=none):(hidT h H).get? b=some o:=
 PySem.W.hideAll_get _ e fun hm=>by
  have q:(H b).isSome=true:=(List.mem_filter.mp hm).2
  rw[n] at q;simp at q
theorem of_hidT {h:Heap}{H:Hp}{b:Addr}{o:Obj}(e:(hidT h H).get? b=some o):h.get? b=some o∧H b=none:=by
 have e':h.get? b=some o:=PySem.W.of_hideAll (trk h H) e
 refine⟨e',?_⟩
 cases q:H b with
 | none=>rfl
 |
  some x=>
  have hm:b∈trk h H:=List.mem_filter.mpr ⟨List.mem_range.mpr (Heap.lt_size e'),by simp[q]⟩
  have z:(hidT h H).get? b=none:=PySem.W.hideAll_none (trk h H) hm
  rw[z] at e;cases e
def allNews (g h:Heap)(L:Addr):List (Addr×Obj):=(List.range h.objs.size).filterMap fun a=>if a=L∨(g.get? a).isSome=true then none else (h.get? a).map fun o=>(a,o)
theorem mem_allNews {g h:Heap}{L a:Addr}{o:Obj}(h1:a≠L)(h2:g.get? a=none)(h3:h.get? a=some o):(a,o)∈allNews g h L:=
 List.mem_filterMap.mpr ⟨a,List.mem_range.mpr (Heap.lt_size h3),by simp[h1,h2,h3]⟩
theorem of_mem_allNews {g h:Heap}{L:Addr}{p:Addr×Obj}(hp:p∈allNews g h L):p.1≠L∧g.get? p.1=none∧h.get? p.1=some p.2:=by
 obtain⟨b,_,e⟩:=List.mem_filterMap.mp hp
 split at e
 ·
  cases e
 ·
  rename_i hn
  cases q:h.get? b with
  | none=>rw[q] at e;simp at e
  |
   some u=>
   rw[q] at e
   simp only[Option.map_some,Option.some.injEq] at e
   subst e
   refine⟨fun z=>hn (.inl z),?_,q⟩
   show g.get? b=none
   cases r:g.get? b with
   | none=>rfl
   | some v=>exact (hn (.inr (by simp[r]))).elim
theorem news_all {g h:Heap}{L:Addr}:News g L h (allNews g h L):=fun p hp=>let ⟨a,b,c⟩:=of_mem_allNews hp;⟨c,a,b⟩
end L2
namespace L2
open PySem PySem.Spec PyProof.Rows
structure Mod (K:PySem.W.Frag)(mg:Str→Option Value)(base:Heap):Prop where
 kin:K.In base
 glob:base.Ns mainGlobals mg
 blt:∃mb,base.Ns builtinsNs mb∧∀x:Str,x≠"__name__"→mb x=bootBuiltins x
 nolimit:base.NoLimit
structure Cx where
 prog:Program
 w:World
 K:PySem.W.Frag
 mg:Str→Option Value
 base:Heap
 A:Around
 N:List Str
 s_0:Shared
 H_0:Hp
 env:Env
 outer:List Env
 stack:List Env
 ex:List Addr
 fn:Str→Bool
 calm:Bool
 pn:List (Addr×Obj)
 xe:Value→Shared→Prop
def frs (l:List Env):List Addr:=l.filterMap (·.frame)
abbrev Cx.fs (X:Cx):List Addr:=frs X.outer
def Vis (sc:Scope)(x:Str):Prop:=sc.names.lookup x=some .local∨sc.names.lookup x=some .cell∨sc.names.lookup x=some .free
def Loc (sc:Scope)(x:Str):Prop:=sc.names.lookup x=some .local∨sc.names.lookup x=some .cell
def Look (env:Env)(h:Heap)(m:Str→Option Value)(x:Str)(u:Value):Prop:=
 (env.kindOf x=some .local∧m x=some u)∨((env.kindOf x=some .cell∨env.kindOf x=some .free)∧∃c,env.cells.lookup x=some c∧h.IsCell c (some u))
structure Cx.Ok (X:Cx):Prop where
 mod:Mod X.K X.mg X.base
 kind:X.env.scope.kind=.function
 glob:X.env.globals=mainGlobals
 blt:X.env.builtins=builtinsNs
 above:X.s_0.heap.objs.size≤X.env.locals
 inj:∀x y c,X.env.cells.lookup x=some c→X.env.cells.lookup y=some c→x=y
 has:∀x,(X.env.kindOf x=some .cell∨X.env.kindOf x=some .free)→∃c,X.env.cells.lookup x=some c
 cab:∀x c,X.fn x=true→X.env.cells.lookup x=some c→X.s_0.heap.objs.size≤c
 hd:X.calm=true→X.A.handled=none
 frames:X.A.frames=some X.stack
 stk:X.stack=X.outer∨(X.stack=X.env::X.outer∧X.env.frame=some X.env.locals)
 exf:∀b∈X.ex,b≠X.env.locals∧∀x c,X.env.cells.lookup x=some c→c≠b
 bs:∀b o,X.base.get? b=some o→X.s_0.heap.get? b=some o∧X.H_0 b=none
 bsz:X.base.objs.size≤X.s_0.heap.objs.size
 noex:∀b o,X.base.get? b=some o→b∉X.ex
 exfs:∀b∈X.ex,b∉X.fs
 funs:X.s_0.heap.FunFrames X.base X.outer
 frf:∀b∈X.fs,X.H_0 b=none
structure Inv (X:Cx)(pins:List (Addr×Obj))(σ:List (Option V))(H:Hp)(s:Shared):Prop where
 ok:X.Ok
 os:s.os=X.s_0.os
 bare:AllBare s.gens
 base:Un X.fs X.ex X.H_0 H X.s_0.heap s.heap
 loc:∃m,s.heap.Ns X.env.locals m∧∀(i:Nat) (x:Str) (v:V),X.N[i]?=some x→σ[i]?=some (some v)→Vis X.env.scope x→∃u,AW v u∧Look X.env s.heap m x u
 cell:∀x c,X.env.cells.lookup x=some c→∃v,s.heap.IsCell c v
 free:H X.env.locals=none
 freeC:∀x c,X.env.cells.lookup x=some c→H c=none
 pin:∀p∈X.pn++pins,s.heap.get? p.1=some p.2∧H p.1=none∧p.1≠X.env.locals∧p.1∉X.fs∧∀v,p.2.data≠.cell v
 hok:HOk X.prog X.w H s.heap
 len:σ.length=X.N.length
section
variable {X:Cx}{pins:List (Addr×Obj)}{σ:List (Option V)}{H H':Hp}{s:Shared}{h':Heap}
theorem Cx.Ok.nofr (ok:X.Ok){b:Addr}{o:Obj}(e:X.base.get? b=some o):b∉X.fs:=fun hb=>by
 have:=(ok.funs.mem hb).1
 rw[e] at this;cases this
theorem Inv.bs (I:Inv X pins σ H s):∀b o,X.base.get? b=some o→s.heap.get? b=some o∧H b=none:=fun b o e=>
 ⟨I.base.keep b o (I.ok.bs b o e).1 (I.ok.bs b o e).2 (I.ok.nofr e) (I.ok.noex b o e),I.base.free b o (I.ok.bs b o e).1 (I.ok.bs b o e).2 (I.ok.noex b o e)⟩
theorem Inv.bk (I:Inv X pins σ H s):∀b o,X.base.get? b=some o→s.heap.get? b=some o:=fun b o e=>(I.bs b o e).1
theorem Inv.mod (I:Inv X pins σ H s):Mod X.K X.mg X.base:=I.ok.mod
theorem Inv.kIn (I:Inv X pins σ H s):X.K.In s.heap:=I.ok.mod.kin.keeps I.bk
theorem Inv.fr (I:Inv X pins σ H s):∃m,Fr X.base X.env.locals s.heap m:=
 let ⟨m,hn,_⟩:=I.loc
 ⟨m,hn,I.bk,Nat.le_trans I.ok.bsz I.ok.above⟩
theorem Inv.lt (I:Inv X pins σ H s):X.env.locals<s.heap.objs.size:=let ⟨_,hn,_⟩:=I.loc;hn.lt
theorem Inv.sz (I:Inv X pins σ H s):X.s_0.heap.objs.size≤s.heap.objs.size:=Nat.le_trans I.ok.above (Nat.le_of_lt I.lt)
theorem Inv.nofs (I:Inv X pins σ H s){a:Addr}(h:s.heap.objs.size≤a):a∉X.fs:=fun hb=>by
 obtain⟨_,o,ho,_⟩:=I.ok.funs.mem hb
 exact absurd (Nat.lt_of_lt_of_le (Heap.lt_size ho) (Nat.le_trans I.sz h)) (Nat.lt_irrefl _)
theorem Inv.cne (I:Inv X pins σ H s):∀x c,X.env.cells.lookup x=some c→c≠X.env.locals:=fun x c e z=>by
 obtain⟨v,o,ho,hd⟩:=I.cell x c e
 obtain⟨m,⟨o',es,ep,ho',hd',_⟩,_⟩:=I.loc
 rw[z,ho'] at ho;cases ho;rw[hd'] at hd;cases hd
theorem Inv.funs (I:Inv X pins σ H s):s.heap.FunFrames X.base X.outer:=by
 have all:∀(l:List Env),(∀b∈frs l,b∈X.fs)→X.s_0.heap.FunFrames X.base l→s.heap.FunFrames X.base l:=by
  intro l
  induction l with
  | nil=>intro _ _;trivial
  |
   cons env r ih=>
   intro hs hl
   obtain⟨hk,⟨L,o,hf,hn,ho,hd⟩,hr⟩:=hl
   have hL:L∈X.fs:=hs L (by unfold frs;rw[List.filterMap_cons,hf];exact List.mem_cons_self)
   obtain⟨sl,e⟩:=I.base.slot L o ho (I.ok.frf L hL) hL fun z=>I.ok.exfs L z hL
   exact⟨hk,⟨L,_,hf,hn,e,hd⟩,ih (fun b hb=>hs b (by unfold frs;rw[List.filterMap_cons,hf];exact List.mem_cons_of_mem _ hb)) hr⟩
 exact all X.outer (fun _ hb=>hb) I.ok.funs
theorem Inv.stack (I:Inv X pins σ H s):s.heap.FunFrames X.base X.stack:=by
 rcases I.ok.stk with e | ⟨e,hf⟩
 ·
  rw[e];exact I.funs
 ·
  rw[e]
  obtain⟨m,hn,_⟩:=I.loc
  refine .cons (by rw[I.ok.kind];decide) hf hn ?_ I.funs
  exact Heap.get?_none_of_le (Nat.le_trans I.ok.bsz I.ok.above)
theorem Inv.stkSub (I:Inv X pins σ H s):∀b∈frs X.stack,b∈X.env.locals::X.fs:=fun b hb=>by
 rcases I.ok.stk with e | ⟨e,hf⟩
 ·
  rw[e] at hb;exact List.mem_cons_of_mem _ hb
 ·
  rw[e] at hb
  unfold frs at hb
  rw[List.filterMap_cons,hf] at hb
  exact hb
theorem Inv.stkFree (I:Inv X pins σ H s):∀b∈frs X.stack,H b=none:=fun b hb=>by
 rcases List.mem_cons.mp (I.stkSub b hb) with e | hb
 ·
  rw[e];exact I.free
 ·
  obtain⟨_,o,ho,_⟩:=I.ok.funs.mem hb
  exact I.base.free b o ho (I.ok.frf b hb) fun z=>I.ok.exfs b z hb
theorem Inv.step {g':Array GenState}{t':Nat}{d':Drawn}{ch:List Addr}(I:Inv X pins σ H s)
  (hch:∀b∈ch,(b∈X.ex∨X.s_0.heap.objs.size≤b)∧b≠X.env.locals∧(∀x c,X.env.cells.lookup x=some c→c≠b)∧∀p∈X.pn++pins,p.1≠b)
  (keep:∀b o,b≠X.env.locals→b∉X.fs→b∉ch→s.heap.get? b=some o→H b=none→h'.get? b=some o)
  (slot:∀b o,b≠X.env.locals→b∈X.fs→b∉ch→s.heap.get? b=some o→H b=none→∃sl,h'.get? b=some {o with slots:=sl})(free:∀b o,b∉ch→s.heap.get? b=some o→H b=none→H' b=none)
  (there:∀b o,b∉ch→s.heap.get? b=some o→∃o',h'.get? b=some o')
  (tups:∀b xs,H b=some (.tup xs)→H' b=some (.tup xs))(frzs:∀b o u,H b=some (.frz o u)→H' b=some (.frz o u))(tbls:∀b ps,H b=some (.tbl ps)→∃more,H' b=some (.tbl (ps++more)))
  (ns:∀m,s.heap.Ns X.env.locals m→h'.Ns X.env.locals m)(hok:HOk X.prog X.w H' h')(hg:AllBare g'):
  Inv X pins σ H' {s with heap:=h',gens:=g',drawn:=d',toks:=t'}:=by
 have neL:∀b o,X.s_0.heap.get? b=some o→b≠X.env.locals:=fun b o e=>Nat.ne_of_lt (Nat.lt_of_lt_of_le (Heap.lt_size e) I.ok.above)
 have neC:∀b o,X.s_0.heap.get? b=some o→b∉X.ex→b∉ch:=fun b o e hx hb=>by
  rcases (hch b hb).1 with z | z
  ·
   exact hx z
  ·
   exact absurd (Nat.lt_of_lt_of_le (Heap.lt_size e) z) (Nat.lt_irrefl _)
 have cellK:∀x c,X.env.cells.lookup x=some c→∀v,s.heap.IsCell c v→h'.IsCell c v:=fun x c e v ⟨o,ho,hd⟩=>by
  have nch:c∉ch:=fun z=>(hch c z).2.2.1 x c e rfl
  by_cases hc:c∈X.fs
  ·
   obtain⟨sl,q⟩:=slot c o (I.cne x c e) hc nch ho (I.freeC x c e)
   exact⟨_,q,hd⟩
  ·
   exact⟨o,keep c o (I.cne x c e) hc nch ho (I.freeC x c e),hd⟩
 refine⟨I.ok,I.os,hg,⟨fun b o e n hb hx=>?_,fun b o e n hb hx=>?_,fun b o e n hx=>?_,fun b o e hx=>?_,fun b xs e=>tups b xs (I.base.tups b xs e),fun b o xs e=>frzs b o xs (I.base.frzs b o xs e),fun b ps e=>?_⟩,?_,fun x c e=>?_,?_,fun x c e=>?_,fun p hp=>?_,hok,I.len⟩
 ·
  exact keep b o (neL b o e) hb (neC b o e hx) (I.base.keep b o e n hb hx) (I.base.free b o e n hx)
 ·
  obtain⟨sl,e1⟩:=I.base.slot b o e n hb hx
  obtain⟨sl',e2⟩:=slot b _ (neL b o e) hb (neC b o e hx) e1 (I.base.free b o e n hx)
  exact⟨sl',e2⟩
 ·
  obtain⟨o',e1⟩:=I.base.there b o e hx
  exact free b o' (neC b o e hx) e1 (I.base.free b o e n hx)
 ·
  obtain⟨o',e1⟩:=I.base.there b o e hx
  exact there b o' (neC b o e hx) e1
 ·
  obtain⟨m1,e1⟩:=I.base.tbls b ps e
  obtain⟨m2,e2⟩:=tbls b _ e1
  exact⟨m1++m2,by rw[e2,Array.append_assoc]⟩
 ·
  obtain⟨m,hn,hl⟩:=I.loc
  refine⟨m,ns m hn,fun i x v e1 e2 e3=>?_⟩
  obtain⟨u,r,l⟩:=hl i x v e1 e2 e3
  refine⟨u,r,?_⟩
  rcases l with l | ⟨k,c,e,z⟩
  ·
   exact .inl l
  ·
   exact .inr ⟨k,c,e,cellK x c e _ z⟩
 ·
  obtain⟨v,z⟩:=I.cell x c e
  exact⟨v,cellK x c e v z⟩
 ·
  obtain⟨m,⟨o,_,_,ho,_⟩,_⟩:=I.loc
  exact free _ o (fun z=>(hch _ z).2.1 rfl) ho I.free
 ·
  obtain⟨v,o,ho,hd⟩:=I.cell x c e
  exact free c o (fun z=>(hch c z).2.2.1 x c e rfl) ho (I.freeC x c e)
 ·
  obtain⟨e,n,ne,nf,d⟩:=I.pin p hp
  have nch:p.1∉ch:=fun z=>(hch p.1 z).2.2.2 p hp rfl
  exact⟨keep p.1 p.2 ne nf nch e n,free p.1 p.2 nch e n,ne,nf,d⟩
theorem Inv.un {t':Nat}(I:Inv X pins σ H s)(u:Un X.fs [] H H' s.heap h')(hok:HOk X.prog X.w H' h'):Inv X pins σ H' {s with heap:=h',toks:=t'}:=by
 obtain⟨m,⟨o,es,ep,ho,r⟩,_⟩:=id I.loc
 obtain⟨sl,hL⟩:=u.any ho I.free (by simp)
 exact I.step (g':=s.gens) (d':=s.drawn) (ch:=[]) (fun _ z=>nomatch z) (fun b o _ hb _ e n=>u.keep b o e n hb (by simp)) (fun b o _ hb _ e n=>u.slot b o e n hb (by simp)) (fun b o _ e n=>u.free b o e n (by simp)) (fun b o _ e=>u.there b o e (by simp)) u.tups u.frzs u.tbls (fun m' hm=>by
  obtain⟨o',es',ep',ho',r'⟩:=hm
  rw[ho] at ho';cases ho'
  exact⟨_,es',ep',hL,r'⟩) hok I.bare
theorem Inv.call {g':Array GenState}{t':Nat}{d':Drawn}{ch:List Addr}(I:Inv X pins σ H s)(u:Un (frs X.stack) ch H H' s.heap h')(hok:HOk X.prog X.w H' h')(hg:AllBare g')
  (hch:∀b∈ch,(b∈X.ex∨X.s_0.heap.objs.size≤b)∧b≠X.env.locals∧(∀x c,X.env.cells.lookup x=some c→c≠b)∧∀p∈X.pn++pins,p.1≠b):
  Inv X pins σ H' {s with heap:=h',gens:=g',drawn:=d',toks:=t'}:=by
 obtain⟨m,⟨o,es,ep,ho,r⟩,_⟩:=id I.loc
 obtain⟨sl,hL⟩:=u.any ho I.free fun z=>(hch _ z).2.1 rfl
 exact I.step (ch:=ch) hch (fun b o hL hb hc e n=>u.keep b o e n (fun z=>(List.mem_cons.mp (I.stkSub b z)).elim hL hb) hc) (fun b o _ _ hc e n=>u.any e n hc) (fun b o hc e n=>u.free b o e n hc) (fun b o hc e=>u.there b o e hc) u.tups u.frzs u.tbls (fun m' hm=>by
  obtain⟨o',es',ep',ho',r'⟩:=hm
  rw[ho] at ho';cases ho'
  exact⟨_,es',ep',hL,r'⟩) hok hg
theorem Inv.turned {t':Nat}{it:Addr}(I:Inv X pins σ H s)(k:∀b o,b≠it→s.heap.get? b=some o→h'.get? b=some o)(hn:H it=none)(hL:it≠X.env.locals)
  (h1:it∈X.ex∨X.s_0.heap.objs.size≤it)(h2:∀x c,X.env.cells.lookup x=some c→c≠it)(h3:∀p∈X.pn++pins,p.1≠it):Inv X pins σ H {s with heap:=h',toks:=t'}:=by
 have nit:∀b u,H b=some u→b≠it:=fun b u e z=>by rw[z,hn] at e;cases e
 refine I.step (g':=s.gens) (d':=s.drawn) (ch:=[it]) (fun b hb=>?_) (fun b o _ _ hc e _=>k b o (fun z=>hc (by simp[z])) e) (fun b o _ _ hc e _=>⟨o.slots,k b o (fun z=>hc (by simp[z])) e⟩) (fun _ _ _ _ n=>n)
  (fun b o hc e=>⟨o,k b o (fun z=>hc (by simp[z])) e⟩) (fun _ _ e=>e) (fun _ _ _ e=>e) (fun b ps e=>⟨#[],by rw[e];simp⟩) (fun m hm=>?_) (fun b u e=>?_) I.bare
 ·
  have e:b=it:=by simpa using hb
  subst e
  exact⟨h1,hL,h2,h3⟩
 ·
  obtain⟨o,es,ep,ho,r⟩:=hm
  exact⟨o,es,ep,k _ o (Ne.symm hL) ho,r⟩
 ·
  refine (I.hok b u e).stay (fun c v hc q=>k c v ?_ q) (fun _ q=>q) fun _ _ q=>q
  rcases hc with z | z
  ·
   rw[z];exact nit b u e
  ·
   exact nit c _ z
theorem Inv.tok (I:Inv X pins σ H s)(t:Nat):Inv X pins σ H {s with toks:=t}:=I.un (h':=s.heap) (t':=t) Un.refl I.hok
theorem Inv.kept {t':Nat}(I:Inv X pins σ H s)(k:∀b u,s.heap.get? b=some u→h'.get? b=some u):Inv X pins σ H {s with heap:=h',toks:=t'}:=I.un (Un.kept k) (I.hok.kept k)
theorem Inv.laid {a:Addr}{o:HO}{t':Nat}(I:Inv X pins σ H s)(k:∀b u,s.heap.get? b=some u→h'.get? b=some u)(hp:s.heap.objs.size≤a)(new:ObjOk X.prog X.w (upd H a o) h' a o):
  Inv X pins σ (upd H a o) {s with heap:=h',toks:=t'}:=I.un (Un.laid k hp (I.hok.fresh hp)) (I.hok.laid k hp new)
theorem Inv.write {x e:Addr}{o:HO}{t':Nat}(I:Inv X pins σ H s)(mu:Mut (H x))(he:e=x∨H e=some (.own x))(k:∀b u,b≠e→s.heap.get? b=some u→h'.get? b=some u)(heo:∃u,h'.get? e=some u)
  (new:ObjOk X.prog X.w (upd H x o) h' x o):Inv X pins σ (upd H x o) {s with heap:=h',toks:=t'}:=I.un (Un.write mu he k heo) (I.hok.write mu he k heo new)
theorem Inv.weak {σ':List (Option V)}(I:Inv X pins σ H s)(hl:σ'.length=σ.length)(w:∀(i:Nat) v,σ'[i]?=some (some v)→σ[i]?=some (some v)):Inv X pins σ' H s:=
 ⟨I.ok,I.os,I.bare,I.base,let ⟨m,hn,hl'⟩:=I.loc;⟨m,hn,fun i x v e1 e2 e3=>hl' i x v e1 (w i v e2) e3⟩,I.cell,I.free,I.freeC,I.pin,I.hok,hl.trans I.len⟩
theorem Inv.pins_of {pins':List (Addr×Obj)}(I:Inv X pins σ H s)(h:∀p∈pins',s.heap.get? p.1=some p.2∧H p.1=none∧p.1≠X.env.locals∧p.1∉X.fs∧∀v,p.2.data≠.cell v):Inv X pins' σ H s:=
 ⟨I.ok,I.os,I.bare,I.base,I.loc,I.cell,I.free,I.freeC,fun p hp=>(List.mem_append.mp hp).elim (fun z=>I.pin p (List.mem_append_left _ z)) (h p),I.hok,I.len⟩
theorem nodup_ix {N:List Str}(hN:N.Nodup){i j:Nat}{x:Str}(a:N[i]?=some x)(b:N[j]?=some x):i=j:=by
 obtain⟨h1,e1⟩:=List.getElem?_eq_some_iff.mp a
 obtain⟨h2,e2⟩:=List.getElem?_eq_some_iff.mp b
 exact (List.getElem_inj hN).mp (e1.trans e2.symm)
theorem store_ok2 {M:Model}{A:Around}{E:Value→Shared→Prop}{i:Nat}{x:Str}{v:V}{u:Value}{Q:Unit→Shared→Prop}(I:Inv X pins σ H s)(hN:X.N.Nodup)(hi:X.N[i]?=some x)(hx:Loc X.env.scope x)(r:AW v u)
  (h:∀s',Inv X pins (σ.set i (some v)) H s'→(∃a,Heap.SameBut a s.heap s'.heap∧(a=X.env.locals∨X.env.cells.lookup x=some a))→Q () s')(hf:X.fn x=true∨X.env.scope.names.lookup x=some .local:=by first | exact .inl rfl | exact .inr rfl | assumption):wpAny M A (storeName X.env x u) Q E s:=by
 obtain⟨m,hn,hl⟩:=id I.loc
 have hcls:(X.env.scope.kind==.class||(X.env.scope.kind==.module&&X.env.locals !=X.env.globals))=false:=by rw[I.ok.kind];rfl
 have hiσ:i<σ.length:=by rw[I.len];exact (List.getElem?_eq_some_iff.mp hi).1
 have cne:=I.cne
 have tracked:∀{a:Addr} {h':Heap},(∃o,s.heap.get? a=some o∧H a=none)→Heap.SameBut a s.heap h'→HOk X.prog X.w H h':=fun {a h'} ha hs b ob e=>by
  obtain⟨_,_,hfree⟩:=ha
  refine (I.hok b ob e).stay (fun c w' hc q=>(hs.2 c ?_).trans q) (fun _ q=>q) fun _ _ q=>q
  rintro rfl
  rcases hc with rfl | hc
  ·
   rw[hfree] at e;cases e
  ·
   rw[hfree] at hc;cases hc
 rcases hx with hk | hk
 ·
  refine wpAny_storeName_local hk hn (fun h' hn' hs=>?_) hcls
  obtain⟨oL,_,_,hoL,_⟩:=id hn
  refine h _ ⟨I.ok,I.os,I.bare,⟨fun b o e n hb hx=>?_,fun b o e n hb hx=>?_,I.base.free,fun b o e hx=>?_,I.base.tups,I.base.frzs,I.base.tbls⟩,⟨_,hn',fun j y v' e1 e2 e3=>?_⟩,fun y c e=>?_,I.free,I.freeC,fun p hp=>?_,tracked ⟨oL,hoL,I.free⟩ hs,by simpa using I.len⟩ ⟨_,hs,.inl rfl⟩
  ·
   exact (hs.2 b (Nat.ne_of_lt (Nat.lt_of_lt_of_le (Heap.lt_size e) I.ok.above))).trans (I.base.keep b o e n hb hx)
  ·
   obtain⟨sl,e1⟩:=I.base.slot b o e n hb hx
   exact⟨sl,(hs.2 b (Nat.ne_of_lt (Nat.lt_of_lt_of_le (Heap.lt_size e) I.ok.above))).trans e1⟩
  ·
   obtain⟨o',e1⟩:=I.base.there b o e hx
   exact⟨o',(hs.2 b (Nat.ne_of_lt (Nat.lt_of_lt_of_le (Heap.lt_size e) I.ok.above))).trans e1⟩
  ·
   by_cases hj:j=i
   ·
    subst hj
    rw[hi] at e1;cases e1
    rw[List.getElem?_set_self hiσ] at e2
    cases e2
    exact⟨u,r,.inl ⟨hk,by simp⟩⟩
   ·
    rw[List.getElem?_set_ne (Ne.symm hj)] at e2
    obtain⟨u',r',q⟩:=hl j y v' e1 e2 e3
    refine⟨u',r',?_⟩
    rcases q with ⟨k,e⟩ | ⟨k,c,e,z⟩
    ·
     refine .inl ⟨k,?_⟩
     have:y≠x:=fun e=>hj (nodup_ix hN e1 (e▸hi))
     simp[this,e]
    ·
     exact .inr ⟨k,c,e,z.sameBut hs (cne y c e)⟩
  ·
   obtain⟨w',z⟩:=I.cell y c e
   exact⟨w',z.sameBut hs (cne y c e)⟩
  ·
   obtain⟨e,n,ne,nf,d⟩:=I.pin p hp
   exact⟨(hs.2 p.1 ne).trans e,n,ne,nf,d⟩
 ·
  have hfn:X.fn x=true:=by
   rcases hf with z | z
   ·
    exact z
   ·
    rw[z] at hk;cases hk
  obtain⟨c,hc⟩:=I.ok.has x (.inl hk)
  obtain⟨w',z⟩:=I.cell x c hc
  refine wpAny_storeName_cell I.ok.kind hk hc z (fun h' hc' hs=>?_)
  obtain⟨oc,hoc,hocd⟩:=id z
  refine h {s with heap:=h'} ⟨I.ok,I.os,I.bare,⟨fun b o e n hb hx=>?_,fun b o e n hb hx=>?_,I.base.free,fun b o e hx=>?_,I.base.tups,I.base.frzs,I.base.tbls⟩,⟨m,hn.sameBut hs (Ne.symm (cne x c hc)),fun j y v' e1 e2 e3=>?_⟩,fun y c' e=>?_,I.free,I.freeC,fun p hp=>?_,tracked ⟨oc,hoc,I.freeC x c hc⟩ hs,by simpa using I.len⟩ ⟨c,hs,.inr hc⟩
  ·
   exact (hs.2 b (Nat.ne_of_lt (Nat.lt_of_lt_of_le (Heap.lt_size e) (I.ok.cab x c hfn hc)))).trans (I.base.keep b o e n hb hx)
  ·
   obtain⟨sl,e1⟩:=I.base.slot b o e n hb hx
   exact⟨sl,(hs.2 b (Nat.ne_of_lt (Nat.lt_of_lt_of_le (Heap.lt_size e) (I.ok.cab x c hfn hc)))).trans e1⟩
  ·
   obtain⟨o',e1⟩:=I.base.there b o e hx
   exact⟨o',(hs.2 b (Nat.ne_of_lt (Nat.lt_of_lt_of_le (Heap.lt_size e) (I.ok.cab x c hfn hc)))).trans e1⟩
  ·
   by_cases hj:j=i
   ·
    subst hj
    rw[hi] at e1;cases e1
    rw[List.getElem?_set_self hiσ] at e2
    cases e2
    exact⟨u,r,.inr ⟨.inl hk,c,hc,hc'⟩⟩
   ·
    rw[List.getElem?_set_ne (Ne.symm hj)] at e2
    obtain⟨u',r',q⟩:=hl j y v' e1 e2 e3
    refine⟨u',r',?_⟩
    rcases q with q | ⟨k,c',e,z'⟩
    ·
     exact .inl q
    ·
     refine .inr ⟨k,c',e,z'.sameBut hs ?_⟩
     rintro rfl
     exact hj (nodup_ix hN e1 (I.ok.inj _ _ _ e hc▸hi))
  ·
   by_cases hcc:c'=c
   ·
    subst hcc;exact⟨_,hc'⟩
   ·
    obtain⟨w2,z2⟩:=I.cell y c' e
    exact⟨w2,z2.sameBut hs hcc⟩
  ·
   obtain⟨e,n,ne,nf,d⟩:=I.pin p hp
   refine⟨(hs.2 p.1 ?_).trans e,n,ne,nf,d⟩
   intro q
   rw[q,hoc] at e
   have q':oc=p.2:=Option.some.inj e
   exact d w' (by rw[←q'];exact hocd)
theorem store_ok {M:Model}{A:Around}{E:Value→Shared→Prop}{i:Nat}{x:Str}{v:V}{u:Value}{Q:Unit→Shared→Prop}(I:Inv X pins σ H s)(hN:X.N.Nodup)(hi:X.N[i]?=some x)(hx:Loc X.env.scope x)(r:AW v u)
  (h:∀s',Inv X pins (σ.set i (some v)) H s'→Q () s')(hf:X.fn x=true∨X.env.scope.names.lookup x=some .local:=by first | exact .inl rfl | exact .inr rfl | assumption):wpAny M A (storeName X.env x u) Q E s:=
 store_ok2 I hN hi hx r (fun s' I' _=>h s' I') hf
theorem Inv.call' {s':Shared}{ch:List Addr}(I:Inv X pins σ H s)(ho:s'.os=s.os)(u:Un (frs X.stack) ch H H' s.heap s'.heap)(hok:HOk X.prog X.w H' s'.heap)(hg:AllBare s'.gens)
  (hch:∀b∈ch,(b∈X.ex∨X.s_0.heap.objs.size≤b)∧b≠X.env.locals∧(∀x c,X.env.cells.lookup x=some c→c≠b)∧∀p∈X.pn++pins,p.1≠b):Inv X pins σ H' s':=by
 obtain⟨h',g',d',t',o'⟩:=s'
 have e:o'=s.os:=ho
 subst e
 exact I.call (g':=g') (t':=t') (d':=d') u hok hg hch
end
abbrev XK:=Value→Option Addr→Hp→Prop
abbrev St:=List (Option V)
abbrev VK:=V→Hp→Prop
abbrev TE:=St→Hp→VK→Prop
abbrev TT:=St→Hp→(Bool→Hp→Prop)→Prop
abbrev TA:=St→Hp→(List V→Hp→Prop)→Prop
structure Ends where
 nx:St→Hp→Prop
 rt:VK
 bk:St→Hp→Prop:=fun _ _=>False
 ct:St→Hp→Prop:=fun _ _=>False
abbrev TS:=Ends→St→Hp→Prop
def EP (X:Cx)(pins:List (Addr×Obj))(σ:St)(Q:VK)(u:Value)(s':Shared):Prop:=∃v H',Inv X pins σ H' s'∧AW v u∧Q v H'
def TP (X:Cx)(pins:List (Addr×Obj))(σ:St)(Q:Bool→Hp→Prop)(b:Bool)(s':Shared):Prop:=∃H',Inv X pins σ H' s'∧Q b H'
def AP (X:Cx)(pins:List (Addr×Obj))(σ:St)(Q:List V→Hp→Prop)(us:List Value)(s':Shared):Prop:=∃vs H',Inv X pins σ H' s'∧AG vs us∧Q vs H'
def SP (X:Cx)(pins:List (Addr×Obj))(D:Ends)(f:Flow)(s':Shared):Prop:=
 match f with
 | .next=>∃σ' H',Inv X pins σ' H' s'∧D.nx σ' H'
 | .brk=>∃σ' H',Inv X pins σ' H' s'∧D.bk σ' H'
 | .cont=>∃σ' H',Inv X pins σ' H' s'∧D.ct σ' H'
 | .ret u=>∃v σ' H',Inv X pins σ' H' s'∧AW v u∧D.rt v H'
def PE (X:Cx)(e:Expr)(t:TE):Prop:=
 ∀(pins:List (Addr×Obj)) (s:Shared) (σ:St) (H:Hp) (Q:VK),Inv X pins σ H s→t σ H Q→wpAny (model X.prog X.w) X.A (eval e X.env) (EP X pins σ Q) X.xe s
def PT (X:Cx)(e:Expr)(t:TT):Prop:=
 ∀(pins:List (Addr×Obj)) (s:Shared) (σ:St) (H:Hp) (Q:Bool→Hp→Prop),Inv X pins σ H s→t σ H Q→wpAny (model X.prog X.w) X.A (isTrue e X.env (eval e X.env)) (TP X pins σ Q) X.xe s
def PW (X:Cx)(e:Expr)(t:TT):Prop:=
 ∀(whole:Sem Value) (pins:List (Addr×Obj)) (s:Shared) (σ:St) (H:Hp) (Q:Bool→Hp→Prop),Inv X pins σ H s→t σ H Q→wpAny (model X.prog X.w) X.A (isTrue e X.env whole) (TP X pins σ Q) X.xe s
theorem PW.pt {X:Cx}{e:Expr}{t:TT}(h:PW X e t):PT X e t:=h _
def PA (X:Cx)(es:List Expr)(t:TA):Prop:=
 ∀(pos:Pos) (pins:List (Addr×Obj)) (s:Shared) (σ:St) (H:Hp) (Q:List V→Hp→Prop),Inv X pins σ H s→t σ H Q→wpAny (model X.prog X.w) X.A (spliced (backTo pos (starEach es X.env))) (AP X pins σ Q) X.xe s
def PS (X:Cx)(st:Stmt)(t:TS):Prop:=
 ∀(pins:List (Addr×Obj)) (s:Shared) (σ:St) (H:Hp) (D:Ends),Inv X pins σ H s→t D σ H→wpAny (model X.prog X.w) X.A (exec st X.env) (SP X pins D) X.xe s
def PSs (X:Cx)(st:List Stmt)(t:TS):Prop:=
 ∀(pins:List (Addr×Obj)) (s:Shared) (σ:St) (H:Hp) (D:Ends),Inv X pins σ H s→t D σ H→wpAny (model X.prog X.w) X.A (execs st X.env) (SP X pins D) X.xe s
theorem thn {α:Type}{t:Sem α}{Q Q':α→Shared→Prop}{M:Model}{A:Around}{E:Value→Shared→Prop}{s:Shared}(h:wpAny M A t Q E s)(hQ:∀a s,Q a s→Q' a s):wpAny M A t Q' E s:=wpAny_mono h hQ fun _ _ x=>x
end L2
namespace L2
open PySem PySem.Spec PyProof.Rows
section
variable {X:Cx}
def tVar (i:Nat):TE:=fun σ H Q=>∃v,σ[i]?=some (some v)∧Q v H
def tC (v:V):TE:=fun _ H Q=>Q v H
theorem pe_var {i:Nat}{x:Str}{pos:Pos}(hN:X.N[i]?=some x)(hv:Vis X.env.scope x)(hd:(x==("__debug__":Str))=false:=by decide)(hcd:(x==("__classdict__":Str))=false:=by decide):PE X (.Name x pos) (tVar i):=by
 intro pins s σ H Q I h
 obtain⟨v,e,h⟩:=h
 obtain⟨m,hn,hl⟩:=I.loc
 obtain⟨u,r,l⟩:=hl i x v hN e hv
 have fin:EP X pins σ Q u s:=⟨v,H,I,r,h⟩
 rcases l with ⟨hk,hm⟩ | ⟨hk,c,hc,hcell⟩
 ·
  exact wpAny_Name (wpAny_loadName_local I.ok.kind hk hn hm fin) hd
 ·
  rcases hk with hk | hk
  ·
   exact wpAny_Name (wpAny_loadName_cell I.ok.kind hk hc hcell fin) hd
  ·
   exact wpAny_Name (wpAny_loadName_free I.ok.kind hk hc hcell fin hcd) hd
theorem Ao {i j pos}:PE X (.Constant (.int i) j pos) (tC (.int i)):=fun _ _ _ H _ I h=>wpAny_Constant_int ⟨.int i,H,I.tok _,⟨_,rfl⟩,h⟩
theorem pe_bl {b j pos}:PE X (.Constant (.bool b) j pos) (tC (.bl b)):=fun _ _ _ H _ I h=>Constant_bool ⟨.bl b,H,I,rfl,h⟩
def Gl (X:Cx)(x:Str):Prop:=X.env.kindOf x=some .globalImplicit
theorem ld_glob {E:Value→Shared→Prop}{pins:List (Addr×Obj)}{s:Shared}{σ:St}{H:Hp}{x:Str}{u:Value}{pos:Pos}{Q:Value→Shared→Prop}(I:Inv X pins σ H s)(hg:Gl X x)(hm:X.mg x=some u)(h:Q u s)
  (hd:(x==("__debug__":Str))=false:=by decide):wpAny (model X.prog X.w) X.A (eval (.Name x pos) X.env) Q E s:=
 Calls.Name_function_global I.ok.kind hg (Calls.loadGlobal_global (by rw[I.ok.glob];exact I.mod.glob.keeps I.bk) hm h) hd
theorem ld_blt {E:Value→Shared→Prop}{pins:List (Addr×Obj)}{s:Shared}{σ:St}{H:Hp}{x:Str}{u:Value}{pos:Pos}{Q:Value→Shared→Prop}(I:Inv X pins σ H s)(hg:Gl X x)(hm:X.mg x=none)(hv:bootBuiltins x=some u)(h:Q u s)
  (hn:x≠"__name__":=by decide)(hd:(x==("__debug__":Str))=false:=by decide):wpAny (model X.prog X.w) X.A (eval (.Name x pos) X.env) Q E s:=by
 obtain⟨mb,h1,h2⟩:=I.mod.blt
 exact Calls.Name_function_global I.ok.kind hg (Calls.loadGlobal_builtin (by rw[I.ok.glob];exact I.mod.glob.keeps I.bk) hm (by rw[I.ok.blt];exact h1.keeps I.bk) ((h2 x hn).trans hv) h) hd
theorem Av {x:Str}{v:V}{u:Value}{pos:Pos}(hg:Gl X x)(hm:X.mg x=some u)(r:AW v u)(hd:(x==("__debug__":Str))=false:=by decide):PE X (.Name x pos) (tC v):=
 fun _ _ _ H _ I h=>ld_glob I hg hm ⟨v,H,I,r,h⟩ hd
variable {a b:Expr}{ta tb:TE}{pos:Pos}
def PC (X:Cx)(op:CmpOp)(a b:Expr)(t:TE):Prop:=
 ∀(pins:List (Addr×Obj)) (s:Shared) (σ:St) (H:Hp) (Q:VK),Inv X pins σ H s→t σ H Q→
  wpAny (model X.prog X.w) X.A (eval a X.env) (fun v s₁=>wpAny (model X.prog X.w) X.A (eval b X.env) (fun u s₂=>wpAny (model X.prog X.w) X.A (compareOp op v u) (EP X pins σ Q) X.xe s₂) X.xe s₁) X.xe s
def tB (t:TE):TT:=fun σ H Q=>t σ H fun x H1=>∃c,x=.bl c∧Q c H1
theorem pt_cmp {op:CmpOp}{t:TE}(h:PC X op a b t)(h1:behindInMarks op b=false:=by first | exact nobehind _ (by decide) (by decide) | rfl):PT X (.Compare a [op] [b] pos) (tB t):=by
 intro pins s σ H Q I hw
 refine wpAny_isTrue_Compare1 (thn (h pins s σ H _ I hw) fun v s1 h1=>thn h1 fun u s2 h2=>thn h2 fun c s3 ⟨x,H1,I1,r1,q1⟩=>?_) h1
 obtain⟨d,rfl,q⟩:=q1
 cases r1
 exact wpAny_truthy_bool ⟨H1,I1,q⟩
theorem pt_val {e:Expr}{t:TE}(h:PE X e t)(he:∀whole,isTrue e X.env whole=(do let v←whole;standAt e.pos;holding [v] (truthy v)):=by intro _;rfl):PT X e (tB t):=by
 intro pins s σ H Q I hw
 refine isTrue_plain (thn (h pins s σ H _ I hw) fun v s1 ⟨x,H1,I1,r1,q1⟩=>?_) (he _)
 obtain⟨d,rfl,q⟩:=q1
 cases r1
 exact wpAny_truthy_bool ⟨H1,I1,q⟩
variable {tA tB':TT}{rest:List Expr}
def tAnd (t u:TT):TT:=fun σ H Q=>t σ H fun c H1=>if c=true then u σ H1 Q else Q false H1
def tOr (t u:TT):TT:=fun σ H Q=>t σ H fun c H1=>if c=true then Q true H1 else u σ H1 Q
def tNot (t:TT):TT:=fun σ H Q=>t σ H fun c H1=>Q (!c) H1
theorem pw_and1 (ha:PT X a tA):PW X (.BoolOp .And [a] pos) tA:=by
 intro wh pins s σ H Q I h
 refine isTrue_and (thn (ha pins s σ H Q I h) fun c s1 e=>?_)
 cases c with
 | true=>exact isTrue_and_nil e
 | false=>exact e
theorem pw_or1 (ha:PT X a tA):PW X (.BoolOp .Or [a] pos) tA:=by
 intro wh pins s σ H Q I h
 refine isTrue_or (thn (ha pins s σ H Q I h) fun c s1 e=>?_)
 cases c with
 | false=>exact isTrue_or_nil e
 | true=>exact e
theorem pw_and (ha:PT X a tA)(hb:PW X (.BoolOp .And (b::rest) pos) tB'):PW X (.BoolOp .And (a::b::rest) pos) (tAnd tA tB'):=by
 intro wh pins s σ H Q I h
 refine isTrue_and (thn (ha pins s σ H _ I h) fun c s1 ⟨H1,I1,q1⟩=>?_)
 cases c with
 | true=>exact hb wh pins s1 σ H1 Q I1 q1
 | false=>exact⟨H1,I1,q1⟩
theorem pw_or (ha:PT X a tA)(hb:PW X (.BoolOp .Or (b::rest) pos) tB'):PW X (.BoolOp .Or (a::b::rest) pos) (tOr tA tB'):=by
 intro wh pins s σ H Q I h
 refine isTrue_or (thn (ha pins s σ H _ I h) fun c s1 ⟨H1,I1,q1⟩=>?_)
 cases c with
 | true=>exact⟨H1,I1,q1⟩
 | false=>exact hb wh pins s1 σ H1 Q I1 q1
theorem pt_not (ha:PT X a tA):PT X (.UnaryOp .Not a pos) (tNot tA):=by
 intro pins s σ H Q I h
 exact isTrue_not (ha pins s σ H (fun c H1=>Q (!c) H1) I h)
def tAndV (ta tb:TE):TE:=fun σ H Q=>ta σ H fun x H1=>∃c,x=.bl c∧if c=true then tb σ H1 Q else Q (.bl false) H1
def tOrV (ta tb:TE):TE:=fun σ H Q=>ta σ H fun x H1=>∃c,x=.bl c∧if c=true then Q (.bl true) H1 else tb σ H1 Q
theorem pe_one {op}{t:TE}(h:PE X a t):PE X (.BoolOp op [a] pos) t:=fun pins s σ H Q I hw=>BoolOp_one (h pins s σ H Q I hw)
theorem pe_and (ha:PE X a ta)(hb:PE X (.BoolOp .And (b::rest) pos) tb):PE X (.BoolOp .And (a::b::rest) pos) (tAndV ta tb):=by
 intro pins s σ H Q I h
 refine BoolOp_and (thn (ha pins s σ H _ I h) fun v s1 ⟨x,H1,I1,r1,q1⟩=>?_)
 obtain⟨c,rfl,q1⟩:=q1
 cases r1
 refine wpAny_truthy_bool ?_
 cases c with
 | true=>exact hb pins s1 σ H1 Q I1 q1
 | false=>exact⟨.bl false,H1,I1,rfl,q1⟩
theorem pe_or (ha:PE X a ta)(hb:PE X (.BoolOp .Or (b::rest) pos) tb):PE X (.BoolOp .Or (a::b::rest) pos) (tOrV ta tb):=by
 intro pins s σ H Q I h
 refine BoolOp_or (thn (ha pins s σ H _ I h) fun v s1 ⟨x,H1,I1,r1,q1⟩=>?_)
 obtain⟨c,rfl,q1⟩:=q1
 cases r1
 refine wpAny_truthy_bool ?_
 cases c with
 | false=>exact hb pins s1 σ H1 Q I1 q1
 | true=>exact⟨.bl true,H1,I1,rfl,q1⟩
end
end L2
namespace L2
open PySem PySem.Spec PyProof.Rows
def SqL (K:PySem.W.Frag)(H:Hp)(a:Addr)(xs:List V):Prop:=
 Rd H a (.lst xs)∨
  ∃(o:Obj) (its:Array Value) (n:Nat),K.lookup a=some o∧o.cls=.type "list"∧o.dict=none∧o.data=.seq its n∧its.size≤sizeLine∧AG xs its.toList
def SqT (K:PySem.W.Frag)(H:Hp)(a:Addr)(xs:List V):Prop:=
 Rd H a (.tup xs)∨
  ∃(o:Obj) (its:Array Value) (n:Nat),K.lookup a=some o∧o.cls=.type "tuple"∧o.data=.seq its n∧its.size≤sizeLine∧AG xs its.toList
def absV:Value→Option V
 | .none=>some .non
 | .bool b=>some (.bl b)
 | .int i _=>some (.int i)
 | .str x _=>some (.str x)
 | .bytes b _=>some (.byt b)
 | .float b _=>some (.flt b)
 | .ref a=>some (.ref a)
 | .type n=>some (.ty n)
 | _=>none
theorem AW.abs {x:V}{u:Value}(r:AW x u):absV u=some x:=by
 cases x with
 | non=>cases r;rfl
 | bl _=>cases r;rfl
 | int _=>obtain⟨t,rfl⟩:=r;rfl
 | str _=>obtain⟨t,rfl⟩:=r;rfl
 | byt _=>obtain⟨t,rfl⟩:=r;rfl
 | flt _=>obtain⟨t,rfl⟩:=r;rfl
 | ref _=>cases r;rfl
 | ty _=>cases r;rfl
theorem AW.inj {x y:V}{u:Value}(r:AW x u)(q:AW y u):x=y:=Option.some.inj (r.abs.symm.trans q.abs)
theorem AG.inj:∀{xs ys:List V} {us:List Value},AG xs us→AG ys us→xs=ys
 | _,_,_,.nil,.nil=>rfl
 | _,_,_,.cons r t,.cons r' t'=>by rw[r.inj r',AG.inj t t']
section
variable {X:Cx}{pins:List (Addr×Obj)}{σ:St}{H:Hp}{s:Shared}{a:Addr}{xs ys:List V}
theorem SqL.of {K:PySem.W.Frag}(h:H a=some (.lst xs)):SqL K H a xs:=.inl (.inl h)
theorem SqT.of {K:PySem.W.Frag}(h:H a=some (.tup xs)):SqT K H a xs:=.inl (.inl h)
theorem Inv.list (I:Inv X pins σ H s)(h:SqL X.K H a xs):∃its:List Value,AG xs its∧PlainL s.heap a its.toArray∧xs.length≤sizeLine:=by
 rcases h with h | ⟨o,its,n,hk,hc,hd,hs,hz,r⟩
 ·
  obtain⟨z,its,n,r,e⟩:=h.ok I.hok
  exact⟨its,r,⟨_,n,e,rfl,rfl,rfl⟩,z⟩
 ·
  refine⟨its.toList,r,⟨o,n,I.kIn a o hk,hc,hd,by simpa using hs⟩,?_⟩
  have e:=r.length
  simp only[Array.length_toList] at e
  omega
theorem Inv.tuple (I:Inv X pins σ H s)(h:SqT X.K H a xs):∃its:List Value,AG xs its∧IsTup s.heap a its.toArray∧xs.length≤sizeLine:=by
 rcases h with h | ⟨o,its,n,hk,hc,hs,hz,r⟩
 ·
  obtain⟨z,its,r,p,_⟩:=h.ok I.hok
  exact⟨its,r,p,z⟩
 ·
  refine⟨its.toList,r,⟨o,I.kIn a o hk,hc,n,by simpa using hs⟩,?_⟩
  have e:=r.length
  simp only[Array.length_toList] at e
  omega
theorem Inv.list_inj (I:Inv X pins σ H s)(h:SqL X.K H a xs)(h':SqL X.K H a ys):xs=ys:=by
 obtain⟨its,r,⟨o,n,e,_,_,d⟩,_⟩:=I.list h
 obtain⟨its',r',⟨o',n',e',_,_,d'⟩,_⟩:=I.list h'
 rw[e] at e';cases e'
 rw[d] at d'
 injection d' with d1 _
 have:its=its':=by simpa using congrArg Array.toList d1
 subst this
 exact r.inj r'
theorem Inv.tuple_inj (I:Inv X pins σ H s)(h:SqT X.K H a xs)(h':SqT X.K H a ys):xs=ys:=by
 obtain⟨its,r,⟨o,e,_,n,d⟩,_⟩:=I.tuple h
 obtain⟨its',r',⟨o',e',_,n',d'⟩,_⟩:=I.tuple h'
 rw[e] at e';cases e'
 rw[d] at d'
 injection d' with d1 _
 have:its=its':=by simpa using congrArg Array.toList d1
 subst this
 exact r.inj r'
end
abbrev Cx.wish (X:Cx)(E:Value→Shared→Prop):Cx:={X with xe:=E}
abbrev Cx.nox (X:Cx):Cx:=X.wish fun _ _=>False
theorem Cx.Ok.wish {X:Cx}(ok:X.Ok)(E:Value→Shared→Prop):(X.wish E).Ok:=
 ⟨ok.mod,ok.kind,ok.glob,ok.blt,ok.above,ok.inj,ok.has,ok.cab,ok.hd,ok.frames,ok.stk,ok.exf,ok.bs,ok.bsz,ok.noex,ok.exfs,ok.funs,ok.frf⟩
theorem Cx.Ok.unwish {X:Cx}{E:Value→Shared→Prop}(ok:(X.wish E).Ok):X.Ok:=
 ⟨ok.mod,ok.kind,ok.glob,ok.blt,ok.above,ok.inj,ok.has,ok.cab,ok.hd,ok.frames,ok.stk,ok.exf,ok.bs,ok.bsz,ok.noex,ok.exfs,ok.funs,ok.frf⟩
section
variable {X:Cx}{pins:List (Addr×Obj)}{σ:St}{H:Hp}{s:Shared}{E:Value→Shared→Prop}
theorem Inv.wish (I:Inv X pins σ H s)(E:Value→Shared→Prop):Inv (X.wish E) pins σ H s:=⟨I.ok.wish E,I.os,I.bare,I.base,I.loc,I.cell,I.free,I.freeC,I.pin,I.hok,I.len⟩
theorem Inv.unwish (I:Inv (X.wish E) pins σ H s):Inv X pins σ H s:=⟨I.ok.unwish,I.os,I.bare,I.base,I.loc,I.cell,I.free,I.freeC,I.pin,I.hok,I.len⟩
theorem SP.unwish {D:Ends}{f:Flow}{s':Shared}(h:SP (X.wish E) pins D f s'):SP X pins D f s':=by
 cases f with
 | next=>obtain⟨σ',H',I,q⟩:=h;exact⟨σ',H',I.unwish,q⟩
 | brk=>obtain⟨σ',H',I,q⟩:=h;exact⟨σ',H',I.unwish,q⟩
 | cont=>obtain⟨σ',H',I,q⟩:=h;exact⟨σ',H',I.unwish,q⟩
 | ret u=>obtain⟨v,σ',H',I,r,q⟩:=h;exact⟨v,σ',H',I.unwish,r,q⟩
theorem PSs.nox {st:List Stmt}{t:TS}(h:PSs X.nox st t):PSs X st t:=fun pins s σ H D I hw=>
 wpAny_mono (h pins s σ H D (I.wish _) hw) (fun _ _ q=>q.unwish) fun _ _ z=>False.elim z
end
section
variable {X:Cx}{st:Stmt}{rest:List Stmt}{t u:TS}{e:Expr}{te:TE}{pos:Pos}
def tNext:TS:=fun D σ H=>D.nx σ H
def tSeq (t u:TS):TS:=fun D σ H=>t {D with nx:=u D} σ H
theorem Ax:PSs X [] tNext:=fun _ _ σ H _ I h=>wpAny_execs_nil ⟨σ,H,I,h⟩
theorem Ad (h1:PS X st t)(h2:PSs X rest u):PSs X (st::rest) (tSeq t u):=by
 intro pins s σ H D I h
 refine wpAny_execs_cons (thn (h1 pins s σ H {D with nx:=u D} I h) fun f s1 q=>?_)
 cases f with
 |
  next=>
  obtain⟨σ',H',I',q⟩:=q
  exact h2 pins s1 σ' H' D I' q
 | ret v=>exact q
 | brk=>exact q
 | cont=>exact q
theorem Af (h1:PS X st t):PSs X [st] t:=by
 intro pins s σ H D I h
 refine wpAny_execs_cons (thn (h1 pins s σ H D I h) fun f s1 q=>?_)
 cases f with
 | next=>exact wpAny_execs_nil q
 | ret v=>exact q
 | brk=>exact q
 | cont=>exact q
theorem Inv.quiet {pins:List (Addr×Obj)}{σ:St}{H:Hp}{s:Shared}(I:Inv X pins σ H s):interactive X.env=false:=by simp[interactive,I.ok.kind]
def tDrop (te:TE):TS:=fun D σ H=>te σ H fun _ H1=>D.nx σ H1
theorem ps_expr (he:PE X e te)(hs:swapsWith e none pos.line X.env=pure false:=by rfl):PS X (.Expr e pos) (tDrop te):=by
 intro pins s σ H D I h
 exact wpAny_Expr_any (thn (he pins s σ H _ I h) fun v s1 ⟨x,H1,I1,r1,q1⟩=>⟨σ,H1,I1,q1⟩) I.quiet hs
def tRet (te:TE):TS:=fun D σ H=>te σ H D.rt
theorem Al (he:PE X e te):PS X (.Return (some e) pos) (tRet te):=by
 intro pins s σ H D I h
 exact wpAny_Return_some (thn (he pins s σ H _ I h) fun v s1 ⟨x,H1,I1,r1,q1⟩=>⟨x,σ,H1,I1,r1,q1⟩)
def tIfS (c:TT)(t u:TS):TS:=fun D σ H=>c σ H fun b H1=>if b=true then t D σ H1 else u D σ H1
theorem AN {c:Expr}{a b:List Stmt}{tc:TT}(hc:PT X c tc)(ha:PSs X a t)(hb:PSs X b u):PS X (.If c a b pos) (tIfS tc t u):=by
 intro pins s σ H D I h
 refine wpAny_If (thn (hc pins s σ H _ I h) fun d s1 ⟨H1,I1,q1⟩=>?_)
 cases d with
 | true=>exact ha pins s1 σ H1 D I1 q1
 | false=>exact hb pins s1 σ H1 D I1 q1
end
abbrev TG:=V→St→Hp→(St→Hp→Prop)→Prop
abbrev TGs:=List V→St→Hp→(St→Hp→Prop)→Prop
def PG (X:Cx)(target:Expr)(t:TG):Prop:=
 ∀(pins:List (Addr×Obj)) (s:Shared) (σ:St) (H:Hp) (v:V) (u:Value) (Q:St→Hp→Prop),Inv X pins σ H s→AW v u→t v σ H Q→
  wpAny (model X.prog X.w) X.A (assign target X.env u) (fun _ s'=>∃σ' H',Inv X pins σ' H' s'∧Q σ' H') X.xe s
def PGs (X:Cx)(ts:List Expr)(t:TGs):Prop:=
 ∀(pins:List (Addr×Obj)) (s:Shared) (σ:St) (H:Hp) (vs:List V) (us:List Value) (Q:St→Hp→Prop),Inv X pins σ H s→AG vs us→t vs σ H Q→
  wpAny (model X.prog X.w) X.A (assignInOrder ((assignEach ts X.env).map (·.2)) us) (fun _ s'=>∃σ' H',Inv X pins σ' H' s'∧Q σ' H') X.xe s
abbrev TSet:=V→V→V→Hp→(Hp→Prop)→Prop
def PSet (X:Cx)(t:TSet):Prop:=
 ∀(pins:List (Addr×Obj)) (s:Shared) (σ:St) (H:Hp) (o i v:V) (ov iv u:Value) (Q:Hp→Prop),Inv X pins σ H s→AW o ov→AW i iv→AW v u→t o i v H Q→
  wpAny (model X.prog X.w) X.A (setItem ov iv u) (fun _ s'=>∃H',Inv X pins σ H' s'∧Q H') X.xe s
abbrev TIp:=V→V→Hp→VK→Prop
def PIp (X:Cx)(op:Operator)(t:TIp):Prop:=
 ∀(pins:List (Addr×Obj)) (s:Shared) (σ:St) (H:Hp) (x y:V) (v u:Value) (Q:VK),Inv X pins σ H s→AW x v→AW y u→t x y H Q→
  wpAny (model X.prog X.w) X.A (inplaceOp op v u) (EP X pins σ Q) X.xe s
section
variable {X:Cx}{pos:Pos}
def gName (i:Nat):TG:=fun v σ H Q=>Q (σ.set i (some v)) H
theorem Au {i:Nat}{x:Str}(hN:X.N.Nodup)(hi:X.N[i]?=some x)(hx:Loc X.env.scope x)(hf:X.fn x=true∨X.env.scope.names.lookup x=some .local:=by first | exact .inl rfl | exact .inr rfl | assumption):PG X (.Name x pos) (gName i):=by
 intro pins s σ H v u Q I r h
 exact wpAny_assign_Name (store_ok I hN hi hx r (fun s' I'=>⟨_,H,I',h⟩) hf)
def gNil:TGs:=fun vs σ H Q=>vs=[]∧Q σ H
def gCons (t:TG)(u:TGs):TGs:=fun vs σ H Q=>∃v r,vs=v::r∧t v σ H fun σ' H'=>u r σ' H' Q
theorem pgs_nil:PGs X [] gNil:=by
 intro pins s σ H vs us Q I r h
 obtain⟨e,h⟩:=h
 subst e
 cases r
 exact assignInOrder_nil ⟨σ,H,I,h⟩
theorem AS {e:Expr}{es:List Expr}{t:TG}{u:TGs}(h1:PG X e t)(h2:PGs X es u)
  (hs:(assignEach (e::es) X.env).map (·.2)=assign e X.env::(assignEach es X.env).map (·.2):=by rfl):PGs X (e::es) (gCons t u):=by
 intro pins s σ H vs us Q I r h
 obtain⟨v,vr,e1,h⟩:=h
 subst e1
 cases r with
 |
  cons r rr=>
  rw[hs]
  refine assignInOrder_cons (thn (h1 pins s σ H _ _ _ I r h) fun _ s1 ⟨σ1,H1,I1,q1⟩=>?_)
  exact h2 pins s1 σ1 H1 _ _ Q I1 rr q1
def gTup (K:PySem.W.Frag)(n:Nat)(t:TGs):TG:=fun v σ H Q=>∃a xs,v=.ref a∧SqT K H a xs∧xs.length=n∧t xs σ H Q
theorem pg_tup {es:List Expr}{k:Nat}{t:TGs}{n:Nat}(hc:X.calm=true)(h:PGs X es t)
  (hn:(assignEach es X.env).length=n:=by rfl)(hst:(assignEach es X.env).findIdx? (·.1)=none:=by rfl):PG X (.Tuple es k pos) (gTup X.K n t):=by
 intro pins s σ H v u Q I r hw
 obtain⟨a,xs,e1,hq,hl,hw⟩:=hw
 subst e1
 cases r
 obtain⟨its,rv,ht,hz⟩:=I.tuple hq
 refine assign_Tuple_tuple (I.ok.hd hc) ht (by simp[hn,←hl,rv.length]) hst fun h' hx=>?_
 have I1:Inv X pins σ H {s with heap:=h'}:=I.kept (t':=s.toks) fun b o e=>hx b o (Nat.ne_of_lt (Heap.lt_size e)) e
 exact h pins _ σ H xs _ Q I1 (by simpa using rv) hw
def gSub (to ti:TE)(t:TSet):TG:=fun v σ H Q=>to σ H fun o H1=>ti σ H1 fun i H2=>t o i v H2 fun H3=>Q σ H3
theorem pg_sub {o i:Expr}{to ti:TE}{t:TSet}(ho:PE X o to)(hi:PE X i ti)(hs:PSet X t)
  (ha:∀v,assign (.Subscript o i pos) X.env v=(do
   let ov←holding [v] (eval o X.env)
   let iv←holding [v,ov] (eval i X.env)
   standAt pos
   holding [v,ov,iv] (setItem ov iv v)
   release [v,ov,iv] []):=by intro _;rfl):PG X (.Subscript o i pos) (gSub to ti t):=by
 intro pins s σ H v u Q I r h
 rw[ha]
 refine wpAny_bind (wpAny_holding (thn (ho pins s σ H _ I h) fun ov s1 ⟨x,H1,I1,r1,q1⟩=>?_))
 refine wpAny_bind (wpAny_holding (thn (hi pins s1 σ H1 _ I1 q1) fun iv s2 ⟨y,H2,I2,r2,q2⟩=>?_))
 refine wpAny_bind (wpAny_standAt (wpAny_bind (wpAny_holding (thn (hs pins s2 σ H2 x y v ov iv u _ I2 r1 r2 r q2) fun _ s3 ⟨H3,I3,q3⟩=>?_))))
 exact wpAny_release ⟨σ,H3,I3,q3⟩
def tAsg (te:TE)(g:TG):TS:=fun D σ H=>te σ H fun x H1=>g x σ H1 D.nx
theorem ps_asg {tg e:Expr}{te:TE}{g:TG}(he:PE X e te)(hg:PG X tg g)(hs:swapsWithSole [tg] e pos.line X.env=pure false:=by rfl)(hw:swappedStores [tg] e X.env=pure none:=by rfl)
  (h1:(assignEach [tg] X.env).map (·.2)=[assign tg X.env]:=by rfl):PS X (.Assign [tg] e pos) (tAsg te g):=by
 intro pins s σ H D I h
 refine wpAny_Assign_stores (thn (he pins s σ H _ I h) fun v s1 ⟨x,H1,I1,r1,q1⟩=>?_) hs hw
 rw[h1]
 exact thn (hg pins s1 σ H1 x v _ I1 r1 q1) fun _ s2 q=>q
theorem As {i:Nat}{x:Str}{e:Expr}{te:TE}{pos':Pos}(hN:X.N.Nodup)(hi:X.N[i]?=some x)(hx:Loc X.env.scope x)(he:PE X e te)(hs:swapsWith e (some (.Name x pos')) pos.line X.env=pure false:=by rfl)(hf:X.fn x=true∨X.env.scope.names.lookup x=some .local:=by first | exact .inl rfl | exact .inr rfl | assumption):
  PS X (.Assign [.Name x pos'] e pos) (tAsg te (gName i)):=by
 intro pins s σ H D I h
 refine wpAny_Assign_Name (thn (he pins s σ H _ I h) fun v s1 ⟨y,H1,I1,r1,q1⟩=>?_) hs
 exact store_ok I1 hN hi hx r1 (fun s2 I2=>⟨_,H1,I2,q1⟩) hf
def tAugS (to ti te:TE)(tget:V→V→Hp→VK→Prop)(tip:TIp)(tset:TSet):TS:=fun D σ H=>to σ H fun o H1=>ti σ H1 fun i H2=>tget o i H2 fun x H3=>te σ H3 fun y H4=>tip x y H4 fun z H5=>tset o i z H5 fun H6=>D.nx σ H6
def PGet (X:Cx)(t:V→V→Hp→VK→Prop):Prop:=
 ∀(pins:List (Addr×Obj)) (s:Shared) (σ:St) (H:Hp) (o i:V) (ov iv:Value) (Q:VK),Inv X pins σ H s→AW o ov→AW i iv→t o i H Q→
  wpAny (model X.prog X.w) X.A (getItem ov iv) (EP X pins σ Q) X.xe s
theorem ps_augS {o i e:Expr}{to ti te:TE}{tget:V→V→Hp→VK→Prop}{tip:TIp}{tset:TSet}{op:Operator}{tpos:Pos}(ho:PE X o to)(hi:PE X i ti)(hg:PGet X tget)(he:PE X e te)(hp:PIp X op tip)(hs:PSet X tset)
  (ha:∀ov iv new,augStore i ov iv new=(do holding [new,ov,iv] (setItem ov iv new);release [new,ov,iv] [];pure .next):=by intros;rfl):PS X (.AugAssign (.Subscript o i tpos) op e pos) (tAugS to ti te tget tip tset):=by
 intro pins s σ H D I h
 refine wpAny_AugAssign_SubscriptAny (thn (ho pins s σ H _ I h) fun ov s1 ⟨x1,H1,I1,r1,q1⟩=>?_) ha
 refine thn (hi pins s1 σ H1 _ I1 q1) fun iv s2 ⟨x2,H2,I2,r2,q2⟩=>?_
 refine thn (hg pins s2 σ H2 x1 x2 ov iv _ I2 r1 r2 q2) fun old s3 ⟨x3,H3,I3,r3,q3⟩=>?_
 refine thn (he pins s3 σ H3 _ I3 q3) fun v s4 ⟨x4,H4,I4,r4,q4⟩=>?_
 refine thn (hp pins s4 σ H4 x3 x4 old v _ I4 r3 r4 q4) fun new s5 ⟨x5,H5,I5,r5,q5⟩=>?_
 exact thn (hs pins s5 σ H5 x1 x2 x5 ov iv new _ I5 r1 r2 r5 q5) fun _ s6 ⟨H6,I6,q6⟩=>⟨σ,H6,I6,q6⟩
def ipI (f:Int→Int→Int):TIp:=fun x y H Q=>∃i j,x=.int i∧y=.int j∧Q (.int (f i j)) H
theorem ip_add:PIp X .Add (ipI fun i j=>i+j):=by
 intro pins s σ H x y v u Q I r1 r2 h
 obtain⟨i,j,e1,e2,q⟩:=h
 subst e1;subst e2
 obtain⟨t,rfl⟩:=r1
 obtain⟨t',rfl⟩:=r2
 exact iadd_int ⟨.int _,H,I.tok _,⟨_,rfl⟩,q⟩
theorem ip_sub:PIp X .Sub (ipI fun i j=>i-j):=by
 intro pins s σ H x y v u Q I r1 r2 h
 obtain⟨i,j,e1,e2,q⟩:=h
 subst e1;subst e2
 obtain⟨t,rfl⟩:=r1
 obtain⟨t',rfl⟩:=r2
 exact isub_int ⟨.int _,H,I.tok _,⟨_,rfl⟩,q⟩
end
section
variable {X:Cx}{pos:Pos}
def tWhile (c:TT)(tb:TS):TS:=fun D σ H=>∃W:Nat→St→Hp→Prop,(∃m,W m σ H)∧∀m σ H,W m σ H→
 c σ H fun b H1=>if b=true then ∃N:St→Hp→Prop,(∀σ' H',N σ' H'→∃m',m'<m∧W m' σ' H')∧tb {D with nx:=N,ct:=N,bk:=D.nx} σ H1 else D.nx σ H1
theorem ps_while {c:Expr}{body:List Stmt}{tc:TT}{tb:TS}(hp:PassesOwn (model X.prog X.w) X.A X.env X.xe)(hc:PT X c tc)(hb:PSs X body tb):PS X (.While c body [] pos) (tWhile tc tb):=by
 intro pins s σ H D I h
 obtain⟨W,⟨m0,w0⟩,turn⟩:=h
 refine wpAny_While (codeAny_whileLoop (fun n s'=>∃σ' H',Inv X pins σ' H' s'∧W n σ' H') ?_ m0 ⟨σ,H,I,w0⟩)
 rintro n s1 ⟨σ1,H1,I1,w1⟩
 refine wpAny_passesOwn hp (thn (hc pins s1 σ1 H1 _ I1 (turn n σ1 H1 w1)) fun b s2 ⟨H2,I2,q2⟩=>?_)
 cases b with
 |
  true=>
  obtain⟨N,hN,q2⟩:=q2
  rw[if_pos rfl]
  refine wpAny_passesOwn hp (thn (hb pins s2 σ1 H2 _ I2 q2) fun f s3 q3=>?_)
  cases f with
  |
   next=>
   obtain⟨σ3,H3,I3,n3⟩:=q3
   obtain⟨m',hm,w3⟩:=hN σ3 H3 n3
   exact⟨m',hm,σ3,H3,I3,w3⟩
  |
   cont=>
   obtain⟨σ3,H3,I3,n3⟩:=q3
   obtain⟨m',hm,w3⟩:=hN σ3 H3 n3
   exact⟨m',hm,σ3,H3,I3,w3⟩
  | brk=>exact q3
  | ret v=>exact q3
 |
  false=>
  rw[if_neg Bool.false_ne_true]
  exact wpAny_execs_nil ⟨σ1,H2,I2,q2⟩
end
structure It where
 go:Nat→Hp→Prop
 yld:Nat→Hp→V→Hp→Prop
 stop:Nat→Hp→Prop
def FpOk (X:Cx)(pins:List (Addr×Obj))(H:Hp)(b:Addr):Prop:=
 H b=none∧b≠X.env.locals∧b∉X.fs∧(b∈X.ex∨X.s_0.heap.objs.size≤b)∧(∀x c,X.env.cells.lookup x=some c→c≠b)∧∀p∈X.pn++pins,p.1≠b
theorem Inv.fpOk {X:Cx}{pins:List (Addr×Obj)}{σ:St}{H H':Hp}{s:Shared}{b:Addr}(I:Inv X pins σ H s)(hb:s.heap.objs.size≤b)(hn:H' b=none):FpOk X pins H' b:=by
 refine⟨hn,Nat.ne_of_gt (Nat.lt_of_lt_of_le I.lt hb),I.nofs hb,.inr (Nat.le_trans I.sz hb),fun x c e z=>?_,fun p hp z=>?_⟩
 ·
  obtain⟨v,q⟩:=I.cell x c e
  exact absurd (Nat.lt_of_lt_of_le q.lt (by rw[z];exact hb)) (Nat.lt_irrefl _)
 ·
  exact absurd (Nat.lt_of_lt_of_le (Heap.lt_size (I.pin p hp).1) (by rw[z];exact hb)) (Nat.lt_irrefl _)
structure Turn (P:Program)(w:World)(K:PySem.W.Frag)(tg:Expr)(J:It)(fp:List Addr)(it:Addr)(tn:Nat→Heap→Prop):Prop where
 mem:it∈fp
 obj:∀i h,tn i h→∀b∈fp,∃o,h.get? b=some o∧∀v,o.data≠.cell v
 keep:∀i h h',tn i h→(∀b∈fp,∀o,h.get? b=some o→h'.get? b=some o)→tn i h'
 item:∀(X:Cx),X.prog=P→X.w=w→X.K=K→X.calm=true→∀(i:Nat) (pins:List (Addr×Obj)) (s:Shared) (σ:St) (H:Hp) (E:Value→Shared→Prop),Inv X pins σ H s→(∀b∈fp,FpOk X pins H b)→tn i s.heap→J.go i H→
  wpAny (model P w) X.A (pyNext (.ref it)) (fun r s1=>∃u,r=some u∧
   wpAny (model P w) X.A (letOwnedTupleGo tg (.ref it) u) (fun _ s2=>∃x H',Inv X pins σ H' s2∧AW x u∧J.yld i H x H'∧tn (i+1) s2.heap∧∀b∈fp,H' b=none) E s1) E s
 done:∀(X:Cx),X.prog=P→X.w=w→X.K=K→X.calm=true→∀(i:Nat) (pins:List (Addr×Obj)) (s:Shared) (σ:St) (H:Hp) (E:Value→Shared→Prop),Inv X pins σ H s→(∀b∈fp,FpOk X pins H b)→tn i s.heap→J.stop i H→
  wpAny (model P w) X.A (pyNext (.ref it)) (fun r s1=>r=none∧Inv X pins σ H s1) E s
 self:∀(A:Around) (i:Nat) (s:Shared) (Q:Value→Shared→Prop) (E:Value→Shared→Prop),tn i s.heap→Q (.ref it) s→wpAny (model P w) A (pyIter (.ref it)) Q E s
abbrev TI:=St→Hp→(It→Hp→Prop)→Prop
def PIE (X:Cx)(pins:List (Addr×Obj))(σ:St)(tg:Expr)(R:It→Hp→Prop)(itv:Value)(s2:Shared):Prop:=
 ∃(it:Addr) (fp:List Addr) (tn:Nat→Heap→Prop) (J:It) (H':Hp),itv=.ref it∧Inv X pins σ H' s2∧Turn X.prog X.w X.K tg J fp it tn∧tn 0 s2.heap∧(∀b∈fp,FpOk X pins H' b)∧R J H'
def PI (X:Cx)(tg iter:Expr)(wi:TI):Prop:=
 ∀(pins:List (Addr×Obj)) (s:Shared) (σ:St) (H:Hp) (R:It→Hp→Prop),Inv X pins σ H s→wi σ H R→
  wpAny (model X.prog X.w) X.A (eval iter X.env) (fun v s1=>wpAny (model X.prog X.w) X.A (pyIter v) (PIE X pins σ tg R) X.xe s1) X.xe s
theorem go_of {M:Model}{A:Around}{E:Value→Shared→Prop}{s:Shared}{tg:Expr}{it:Addr}{u:Value}{o:Obj}{n:String}{vs:Array Value}{Q:Unit→Shared→Prop}(ho:s.heap.get? it=some o)(hc:o.cls=.type n)(hd:o.data=.fields vs)
  (hn:["enumerate","zip","dict_itemiterator","dict_reverseitemiterator","odict_iterator","itertools.zip_longest","itertools.pairwise"].contains n=false)(hQ:Q () s):wpAny M A (letOwnedTupleGo tg (.ref it) u) Q E s:=by
 unfold letOwnedTupleGo
 cases tg<;>first
  | exact wpAny_pure hQ
  | (cases u<;>first
    | exact wpAny_pure hQ
    | (
      refine wpAny_bind (wpAny_load ho ?_)
      rw[hc,hd]
      show wpAny M A (if (["enumerate","zip","dict_itemiterator","dict_reverseitemiterator","odict_iterator","itertools.zip_longest","itertools.pairwise"].contains n&&vs[0]?==some (rawInt _))=true then _ else _) Q E s
      rw[if_neg (by intro h;rw[hn,Bool.false_and] at h;cases h)]
      exact wpAny_pure hQ))
def Itl (K:PySem.W.Frag)(a:Addr):It:=
 ⟨fun i H=>∃xs x,SqL K H a xs∧xs[i]?=some x,fun i H x H'=>H'=H∧∀xs,SqL K H a xs→xs[i]?=some x,fun i H=>∃xs,SqL K H a xs∧xs.length≤i⟩
def Itt (K:PySem.W.Frag)(a:Addr):It:=
 ⟨fun i H=>∃xs x,SqT K H a xs∧xs[i]?=some x,fun i H x H'=>H'=H∧∀xs,SqT K H a xs→xs[i]?=some x,fun i H=>∃xs,SqT K H a xs∧xs.length≤i⟩
def Itr (lo:Int)(n:Nat):It:=⟨fun i _=>i<n,fun i H x H'=>H'=H∧x=.int (lo+i),fun i _=>n≤i⟩
theorem turn_list {P:Program}{w:World}{K:PySem.W.Frag}{tg:Expr}(a it:Addr):Turn P w K tg (Itl K a) [it] it (fun i h=>h.IsListIter it a i) where
 mem:=by simp
 obj:=fun i h st b hb=>by
  have e:b=it:=by simpa using hb
  subst e
  obtain⟨o,e,c,d⟩:=st
  exact⟨o,e,fun v z=>by rw[d] at z;cases z⟩
 keep:=fun i h h' st k=>st.at fun o e=>k it (by simp) o e
 item:=by
  intro X hP hw hK hc i pins s σ H E I hf st hg
  subst hP hw hK
  obtain⟨xs,x,hq,hx⟩:=hg
  obtain⟨its,rv,p,hz⟩:=I.list hq
  obtain⟨u,hu,ru⟩:=rv.get hx
  obtain⟨f0,f1,f2,f3,f4,f5⟩:=hf it (by simp)
  refine wpAny_pyNext_list_item st p.isList (x:=u) (by simpa using hu) fun h' st' sb=>?_
  have I1:Inv X pins σ H {s with heap:=h'}:=I.turned (t':=s.toks) (fun b o hb e=>(sb.2 b hb).trans e) f0 f1 f3 f4 f5
  obtain⟨o,e,c,d⟩:=id st'
  exact⟨u,rfl,go_of (s:={s with heap:=h'}) e c d (by decide) ⟨x,H,I1,ru,⟨rfl,fun ys hy=>by rw[I.list_inj hy hq];exact hx⟩,st',fun b hb=>(hf b hb).1⟩⟩
 done:=by
  intro X hP hw hK hc i pins s σ H E I hf st hg
  subst hP hw hK
  obtain⟨xs,hq,hx⟩:=hg
  obtain⟨its,rv,p,hz⟩:=I.list hq
  obtain⟨f0,f1,f2,f3,f4,f5⟩:=hf it (by simp)
  have hl:=rv.length
  exact wpAny_pyNext_list_end (I.ok.hd hc) st p.isList (by simp;omega) fun h' eb=>⟨rfl,I.turned (t':=s.toks) (fun b o hb e=>eb b o hb e) f0 f1 f3 f4 f5⟩
 self:=fun _ _ _ _ _ st h=>wpAny_pyIter_listiter st h
theorem turn_tuple {P:Program}{w:World}{K:PySem.W.Frag}{tg:Expr}(a it:Addr):Turn P w K tg (Itt K a) [it] it (fun i h=>h.IsTupleIter it a i) where
 mem:=by simp
 obj:=fun i h st b hb=>by
  have e:b=it:=by simpa using hb
  subst e
  obtain⟨o,e,c,d⟩:=st
  exact⟨o,e,fun v z=>by rw[d] at z;cases z⟩
 keep:=fun i h h' st k=>st.at fun o e=>k it (by simp) o e
 item:=by
  intro X hP hw hK hc i pins s σ H E I hf st hg
  subst hP hw hK
  obtain⟨xs,x,hq,hx⟩:=hg
  obtain⟨its,rv,p,hz⟩:=I.tuple hq
  obtain⟨u,hu,ru⟩:=rv.get hx
  obtain⟨f0,f1,f2,f3,f4,f5⟩:=hf it (by simp)
  refine wpAny_pyNext_tuple_item st (show s.heap.IsTuple a its.toArray from p) (x:=u) (by simpa using hu) fun h' st' sb=>?_
  have I1:Inv X pins σ H {s with heap:=h'}:=I.turned (t':=s.toks) (fun b o hb e=>(sb.2 b hb).trans e) f0 f1 f3 f4 f5
  obtain⟨o,e,c,d⟩:=id st'
  exact⟨u,rfl,go_of (s:={s with heap:=h'}) e c d (by decide) ⟨x,H,I1,ru,⟨rfl,fun ys hy=>by rw[I.tuple_inj hy hq];exact hx⟩,st',fun b hb=>(hf b hb).1⟩⟩
 done:=by
  intro X hP hw hK hc i pins s σ H E I hf st hg
  subst hP hw hK
  obtain⟨xs,hq,hx⟩:=hg
  obtain⟨its,rv,p,hz⟩:=I.tuple hq
  obtain⟨f0,f1,f2,f3,f4,f5⟩:=hf it (by simp)
  have hl:=rv.length
  exact wpAny_pyNext_tuple_end (I.ok.hd hc) st (show s.heap.IsTuple a its.toArray from p) (by simp;omega) fun h' eb=>⟨rfl,I.turned (t':=s.toks) (fun b o hb e=>eb b o hb e) f0 f1 f3 f4 f5⟩
 self:=fun _ _ _ _ _ st h=>wpAny_pyIter_tupleiter st h
theorem turn_range {P:Program}{w:World}{K:PySem.W.Frag}{tg:Expr}(it:Addr)(lo:Int)(n:Nat):Turn P w K tg (Itr lo n) [it] it (fun i h=>IsRangeIter h it (lo+(i:Nat)*1) ((n:Int)-(i:Nat)) 1) where
 mem:=by simp
 obj:=fun i h st b hb=>by
  have e:b=it:=by simpa using hb
  subst e
  exact⟨_,st,fun v z=>by
   have z':Data.fields _=Data.cell v:=z
   cases z'⟩
 keep:=fun i h h' st k=>k it (by simp) _ st
 item:=by
  intro X hP hw hK hc i pins s σ H E I hf st hg
  subst hP hw hK
  obtain⟨f0,f1,f2,f3,f4,f5⟩:=hf it (by simp)
  have W:=Walks.range (prog:=X.prog) (w:=X.w) (I.ok.hd hc) it lo 1 n
  refine W.item i s _ _ hg st fun v h' tk hv st' kk=>?_
  obtain⟨t,rfl⟩:=hv
  have I1:Inv X pins σ H {s with heap:=h',toks:=tk}:=I.turned (fun b o hb e=>kk b o (by simpa using hb) e) f0 f1 f3 f4 f5
  refine⟨_,rfl,go_of (s:={s with heap:=h',toks:=tk}) (n:="range_iterator") st' rfl rfl (by decide) ⟨.int (lo+i),H,I1,⟨t,?_⟩,⟨rfl,rfl⟩,st',fun b hb=>(hf b hb).1⟩⟩
  rw[Int.mul_one]
 done:=by
  intro X hP hw hK hc i pins s σ H E I hf st hg
  subst hP hw hK
  obtain⟨f0,f1,f2,f3,f4,f5⟩:=hf it (by simp)
  exact wpAny_pyNext_range_end (I.ok.hd hc) st (by have:n≤i:=hg;omega) fun h' eb=>⟨rfl,I.turned (t':=s.toks) (fun b o hb e=>eb b o hb e) f0 f1 f3 f4 f5⟩
 self:=fun _ _ _ _ _ st h=>wpAny_pyIter_rangeiter st h
end L2
namespace L2
open PySem PySem.Spec PyProof.Rows
section
variable {X:Cx}{tg:Expr}
def iList (K:PySem.W.Frag)(tl:TE):TI:=fun σ H R=>tl σ H fun x H1=>∃a,x=.ref a∧(∃xs,SqL K H1 a xs)∧R (Itl K a) H1
def iTup (K:PySem.W.Frag)(tl:TE):TI:=fun σ H R=>tl σ H fun x H1=>∃a,x=.ref a∧(∃xs,SqT K H1 a xs)∧R (Itt K a) H1
theorem A1 {l:Expr}{tl:TE}(hl:PE X l tl):PI X tg l (iList X.K tl):=by
 intro pins s σ H R I h
 refine thn (hl pins s σ H _ I h) fun v s1 ⟨x,H1,I1,r1,q1⟩=>?_
 obtain⟨a,e,⟨xs,hq⟩,q⟩:=q1
 subst e
 cases r1
 obtain⟨its,rv,p,hz⟩:=I1.list hq
 refine wpAny_pyIter_list p.isList ?_
 refine⟨s1.heap.objs.size,[s1.heap.objs.size],_,_,H1,rfl,I1.kept (t':=s1.toks) fun b o e=>Heap.get?_push_of_some _ e,turn_list a _,⟨_,Heap.get?_push_size _ rfl,rfl,rfl⟩,fun b hb=>?_,q⟩
 have e:b=s1.heap.objs.size:=by simpa using hb
 subst e
 exact I1.fpOk (Nat.le_refl _) (I1.hok.fresh (Nat.le_refl _))
theorem pi_tup {l:Expr}{tl:TE}(hl:PE X l tl):PI X tg l (iTup X.K tl):=by
 intro pins s σ H R I h
 refine thn (hl pins s σ H _ I h) fun v s1 ⟨x,H1,I1,r1,q1⟩=>?_
 obtain⟨a,e,⟨xs,hq⟩,q⟩:=q1
 subst e
 cases r1
 obtain⟨its,rv,p,hz⟩:=I1.tuple hq
 refine wpAny_pyIter_tuple (show s1.heap.IsTuple a its.toArray from p) ?_
 refine⟨s1.heap.objs.size,[s1.heap.objs.size],_,_,H1,rfl,I1.kept (t':=s1.toks) fun b o e=>Heap.get?_push_of_some _ e,turn_tuple a _,⟨_,Heap.get?_push_size _ rfl,rfl,rfl⟩,fun b hb=>?_,q⟩
 have e:b=s1.heap.objs.size:=by simpa using hb
 subst e
 exact I1.fpOk (Nat.le_refl _) (I1.hok.fresh (Nat.le_refl _))
theorem range_it {pins:List (Addr×Obj)}{σ:St}{H:Hp}{s:Shared}{R:It→Hp→Prop}{E:Value→Shared→Prop}{lo hi:Int}{t u v:Tok}{tk:Nat}(I:Inv X pins σ H s)(h1:-(2^62)≤lo)(h2:lo<2^62)(h3:-(2^62)≤hi)(h4:hi<2^62)
  (q:R (Itr lo (hi-lo).toNat) H):wpAny (model X.prog X.w) X.A (pyIter (.ref s.heap.objs.size)) (PIE X pins σ tg R) E {s with heap:=s.heap.push {cls:=.type "range",data:=.fields #[.int lo t,.int hi u,.int 1 v]},toks:=tk}:=by
 refine wpAny_pyIter_range (IsRange.new ..) (small_one h1 h2 h3 h4) ?_
 have I1:Inv X pins σ H {s with heap:=s.heap.push {cls:=.type "range",data:=.fields #[.int lo t,.int hi u,.int 1 v]},toks:=tk}:=I.kept fun b o e=>Heap.get?_push_of_some _ e
 refine⟨(s.heap.push {cls:=.type "range",data:=.fields #[.int lo t,.int hi u,.int 1 v]}).objs.size,[(s.heap.push {cls:=.type "range",data:=.fields #[.int lo t,.int hi u,.int 1 v]}).objs.size],_,_,H,rfl,
  I1.kept (t':=tk) fun b o e=>Heap.get?_push_of_some _ e,turn_range _ lo (hi-lo).toNat,?_,fun b hb=>?_,q⟩
 ·
  have e1:lo+((0:Nat):Int)*1=lo:=by simp
  have e2:(((hi-lo).toNat:Nat):Int)-((0:Nat):Int)=Builtin.Range.rangeSize lo hi 1:=by rw[rangeSize_one];split<;>omega
  show IsRangeIter _ _ (lo+((0:Nat):Int)*1) ((((hi-lo).toNat:Nat):Int)-((0:Nat):Int)) 1
  rw[e1,e2]
  exact Heap.get?_push_size _ rfl
 ·
  have e:b=(s.heap.push {cls:=.type "range",data:=.fields #[.int lo t,.int hi u,.int 1 v]}).objs.size:=by simpa using hb
  subst e
  exact I1.fpOk (Nat.le_refl _) (I1.hok.fresh (Nat.le_refl _))
def iRng1 (ta:TA):TI:=fun σ H R=>ta σ H fun vs H1=>∃j:Int,vs=[.int j]∧-(2^62)≤j∧j<2^62∧R (Itr 0 j.toNat) H1
def iRng2 (ta:TA):TI:=fun σ H R=>ta σ H fun vs H1=>∃i j:Int,vs=[.int i,.int j]∧(-(2^62)≤i∧i<2^62∧-(2^62)≤j∧j<2^62)∧R (Itr i (j-i).toNat) H1
theorem pi_range1 {a:Expr}{ta:TA}{p pos:Pos}(hg:Gl X "range")(hm:X.mg "range"=none)(ha:PA X [a] ta)(hs:starEach [a] X.env=[(false,eval a X.env)]:=by rfl):PI X tg (.Call (.Name "range" p) [a] [] pos) (iRng1 ta):=by
 intro pins s σ H R I h
 refine Call_ (ld_blt I hg hm boot_range (PyProof.Rows.callWith_type1 (thn (ha pos pins s σ H _ I h) fun us s1 ⟨vs,H1,I1,r1,q1⟩=>?_) hs rfl))
 obtain⟨j,e,q1,q2,q⟩:=q1
 subst e
 cases r1 with
 |
  cons r rr=>
  cases rr
  obtain⟨t,rfl⟩:=r
  exact call_range_1 (range_it I1 (by omega) (by omega) q1 q2 (by simpa using q))
theorem pi_range2 {a b:Expr}{ta:TA}{p pos:Pos}(hg:Gl X "range")(hm:X.mg "range"=none)(ha:PA X [a,b] ta)(hs:starEach [a,b] X.env=[(false,eval a X.env),(false,eval b X.env)]:=by rfl)(hs2:starEach [b] X.env=[(false,eval b X.env)]:=by rfl):
  PI X tg (.Call (.Name "range" p) [a,b] [] pos) (iRng2 ta):=by
 intro pins s σ H R I h
 refine Call_ (ld_blt I hg hm boot_range (PyProof.Rows.callWith_type1 (thn (ha pos pins s σ H _ I h) fun us s1 ⟨vs,H1,I1,r1,q1⟩=>?_) (by rw[hs,hs2]) (by rw[hs2];rfl)))
 obtain⟨i,j,e,⟨q1,q2,q3,q4⟩,q⟩:=q1
 subst e
 cases r1 with
 |
  cons r rr=>
  cases rr with
  |
   cons r' rr=>
   cases rr
   obtain⟨t,rfl⟩:=r
   obtain⟨t',rfl⟩:=r'
   exact call_range_2 (range_it I1 q1 q2 q3 q4 q)
def tFor (wi:TI)(g:TG)(tb:TS):TS:=fun D σ H=>wi σ H fun J H1=>∃W:Nat→Nat→St→Hp→Prop,(∃m,W 0 m σ H1)∧∀i m σ H,W i m σ H→
 (J.stop i H∧D.nx σ H)∨(J.go i H∧∃N:St→Hp→Prop,(∀σ' H',N σ' H'→∃m',m'<m∧W (i+1) m' σ' H')∧∀x H',J.yld i H x H'→g x σ H' fun σ2 H2=>tb {D with nx:=N,ct:=N,bk:=D.nx} σ2 H2)
def pinsAt (fp:List Addr)(h:Heap):List (Addr×Obj):=fp.filterMap fun b=>(h.get? b).map fun o=>(b,o)
theorem mem_pinsAt {fp:List Addr}{h:Heap}{b:Addr}{o:Obj}(hb:b∈fp)(e:h.get? b=some o):(b,o)∈pinsAt fp h:=List.mem_filterMap.mpr ⟨b,hb,by rw[e];rfl⟩
theorem of_pinsAt {fp:List Addr}{h:Heap}{p:Addr×Obj}(hp:p∈pinsAt fp h):p.1∈fp∧h.get? p.1=some p.2:=by
 obtain⟨b,hb,e⟩:=List.mem_filterMap.mp hp
 cases q:h.get? b with
 | none=>rw[q] at e;cases e
 |
  some o=>
  rw[q] at e
  have e':(b,o)=p:=Option.some.inj e
  subst e'
  exact⟨hb,q⟩
theorem Inv.pinned {pins:List (Addr×Obj)}{σ:St}{H:Hp}{s:Shared}{fp:List Addr}(I:Inv X pins σ H s)(hf:∀b∈fp,FpOk X pins H b)(ho:∀b∈fp,∃o,s.heap.get? b=some o∧∀v,o.data≠.cell v):Inv X (pins++pinsAt fp s.heap) σ H s:=
 I.pins_of fun p hp=>(List.mem_append.mp hp).elim (fun z=>I.pin p (List.mem_append_right _ z)) fun z=>by
  obtain⟨hb,e⟩:=of_pinsAt z
  obtain⟨f0,f1,f2,_⟩:=hf p.1 hb
  obtain⟨o,e',d⟩:=ho p.1 hb
  rw[e] at e';cases e'
  exact⟨e,f0,f1,f2,d⟩
theorem Inv.unpinned {pins pl:List (Addr×Obj)}{σ:St}{H:Hp}{s:Shared}(I:Inv X (pins++pl) σ H s):Inv X pins σ H s:=I.pins_of fun p hp=>I.pin p (List.mem_append_right _ (List.mem_append_left _ hp))
theorem ps_for {iter:Expr}{body:List Stmt}{wi:TI}{g:TG}{tb:TS}{pos:Pos}(hp:PassesOwn (model X.prog X.w) X.A X.env X.xe)(hc:X.calm=true)(hi:PI X tg iter wi)(hg:PG X tg g)(hb:PSs X body tb)
  (hs:∀x,foldedSetIterable iter X.env x=pure x:=by intro _;rfl):PS X (.For tg iter body [] pos) (tFor wi g tb):=by
 intro pins s σ H D I h
 refine wpAny_For (thn (hi pins s σ H _ I h) fun v s1 h1=>thn h1 fun itv s2 h2=>?_) hs
 obtain⟨it,fp,tn,J,H2,e,I2,T,st2,f2,W,⟨m0,w0⟩,turn⟩:=h2
 subst e
 have stat:∀{H':Hp},(∀b∈fp,H' b=none)→∀b∈fp,FpOk X pins H' b:=fun hn b hb=>⟨hn b hb,(f2 b hb).2⟩
 refine codeAny_forLoop_any (fun n s'=>∃i σ' H',Inv X pins σ' H' s'∧tn i s'.heap∧(∀b∈fp,H' b=none)∧W i n σ' H') ?_ m0 ⟨0,σ,H2,I2,st2,fun b hb=>(f2 b hb).1,w0⟩
 rintro n s3 ⟨i,σ3,H3,I3,st3,fr3,w3⟩
 rcases turn i n σ3 H3 w3 with ⟨stop,qn⟩ | ⟨go,N,hN,step⟩
 ·
  refine wpAny_passesOwn hp (thn (T.done X rfl rfl rfl hc i pins s3 σ3 H3 X.xe I3 (stat fr3) st3 stop) fun r s4 ⟨hr,I4⟩=>?_)
  subst hr
  exact wpAny_execs_nil ⟨σ3,H3,I4,qn⟩
 ·
  refine wpAny_passesOwn hp (thn (T.item X rfl rfl rfl hc i pins s3 σ3 H3 X.xe I3 (stat fr3) st3 go) fun r s4 ⟨u,hr,h4⟩=>?_)
  subst hr
  refine wpAny_passesOwn hp (thn h4 fun _ s5 ⟨x,H5,I5,r5,y5,st5,fr5⟩=>?_)
  have I5':=I5.pinned (stat fr5) (T.obj _ _ st5)
  refine wpAny_passesOwn hp (thn (hg _ s5 σ3 H5 x u _ I5' r5 (step x H5 y5)) fun _ s6 ⟨σ6,H6,I6,q6⟩=>?_)
  refine wpAny_passesOwn hp (thn (hb _ s6 σ6 H6 _ I6 q6) fun f s7 q7=>?_)
  have again:∀{σ7:St} {H7:Hp},Inv X (pins++pinsAt fp s5.heap) σ7 H7 s7→N σ7 H7→∃m,m<n∧∃i σ' H',Inv X pins σ' H' s7∧tn i s7.heap∧(∀b∈fp,H' b=none)∧W i m σ' H':=fun {σ7 H7} I7 n7=>by
   obtain⟨m',hm,w7⟩:=hN σ7 H7 n7
   refine⟨m',hm,i+1,σ7,H7,I7.unpinned,T.keep _ _ _ st5 fun b hb o e=>(I7.pin (b,o) (List.mem_append_right _ (List.mem_append_right _ (mem_pinsAt hb e)))).1,fun b hb=>?_,w7⟩
   obtain⟨o,e,d⟩:=T.obj _ _ st5 b hb
   exact (I7.pin (b,o) (List.mem_append_right _ (List.mem_append_right _ (mem_pinsAt hb e)))).2.1
  cases f with
  | next=>obtain⟨σ7,H7,I7,n7⟩:=q7;exact again I7 n7
  | cont=>obtain⟨σ7,H7,I7,n7⟩:=q7;exact again I7 n7
  | brk=>obtain⟨σ7,H7,I7,q7⟩:=q7;exact⟨σ7,H7,I7.unpinned,q7⟩
  | ret v=>obtain⟨x7,σ7,H7,I7,r7,q7⟩:=q7;exact⟨x7,σ7,H7,I7.unpinned,r7,q7⟩
end
theorem for_list {K:PySem.W.Frag}{a:Addr}{xs:List V}{g:TG}{tb:TS}{D:Ends}{σ:St}{H:Hp}(Pv:Nat→St→Hp→Prop)(h0:Pv 0 σ H)(hl:∀i σ H,i≤xs.length→Pv i σ H→SqL K H a xs)
  (hs:∀i x σ H,xs[i]?=some x→Pv i σ H→g x σ H fun σ2 H2=>tb {D with nx:=Pv (i+1),ct:=Pv (i+1),bk:=D.nx} σ2 H2)(hd:∀σ H,Pv xs.length σ H→D.nx σ H):
  ∃W:Nat→Nat→St→Hp→Prop,(∃m,W 0 m σ H)∧∀i m σ H,W i m σ H→
   ((Itl K a).stop i H∧D.nx σ H)∨((Itl K a).go i H∧∃N:St→Hp→Prop,(∀σ' H',N σ' H'→∃m',m'<m∧W (i+1) m' σ' H')∧∀x H',(Itl K a).yld i H x H'→g x σ H' fun σ2 H2=>tb {D with nx:=N,ct:=N,bk:=D.nx} σ2 H2):=by
 refine⟨fun i m σ H=>m=xs.length-i∧i≤xs.length∧Pv i σ H,⟨xs.length,by simp,Nat.zero_le _,h0⟩,?_⟩
 rintro i m σ H ⟨rfl,hi,p⟩
 have q:=hl i σ H hi p
 by_cases hlt:i<xs.length
 ·
  refine .inr ⟨⟨xs,xs[i],q,by simp[hlt]⟩,Pv (i+1),fun σ' H' p'=>⟨xs.length-(i+1),by omega,rfl,hlt,p'⟩,fun x H' y=>?_⟩
  obtain⟨e,y⟩:=y
  subst e
  exact hs i x σ _ (y xs q) p
 ·
  have e:i=xs.length:=by omega
  subst e
  exact .inl ⟨⟨xs,q,Nat.le_refl _⟩,hd σ H p⟩
theorem for_tup {K:PySem.W.Frag}{a:Addr}{xs:List V}{g:TG}{tb:TS}{D:Ends}{σ:St}{H:Hp}(Pv:Nat→St→Hp→Prop)(h0:Pv 0 σ H)(hl:∀i σ H,i≤xs.length→Pv i σ H→SqT K H a xs)
  (hs:∀i x σ H,xs[i]?=some x→Pv i σ H→g x σ H fun σ2 H2=>tb {D with nx:=Pv (i+1),ct:=Pv (i+1),bk:=D.nx} σ2 H2)(hd:∀σ H,Pv xs.length σ H→D.nx σ H):
  ∃W:Nat→Nat→St→Hp→Prop,(∃m,W 0 m σ H)∧∀i m σ H,W i m σ H→
   ((Itt K a).stop i H∧D.nx σ H)∨((Itt K a).go i H∧∃N:St→Hp→Prop,(∀σ' H',N σ' H'→∃m',m'<m∧W (i+1) m' σ' H')∧∀x H',(Itt K a).yld i H x H'→g x σ H' fun σ2 H2=>tb {D with nx:=N,ct:=N,bk:=D.nx} σ2 H2):=by
 refine⟨fun i m σ H=>m=xs.length-i∧i≤xs.length∧Pv i σ H,⟨xs.length,by simp,Nat.zero_le _,h0⟩,?_⟩
 rintro i m σ H ⟨rfl,hi,p⟩
 have q:=hl i σ H hi p
 by_cases hlt:i<xs.length
 ·
  refine .inr ⟨⟨xs,xs[i],q,by simp[hlt]⟩,Pv (i+1),fun σ' H' p'=>⟨xs.length-(i+1),by omega,rfl,hlt,p'⟩,fun x H' y=>?_⟩
  obtain⟨e,y⟩:=y
  subst e
  exact hs i x σ _ (y xs q) p
 ·
  have e:i=xs.length:=by omega
  subst e
  exact .inl ⟨⟨xs,q,Nat.le_refl _⟩,hd σ H p⟩
theorem for_range {lo:Int}{n:Nat}{g:TG}{tb:TS}{D:Ends}{σ:St}{H:Hp}(Pv:Nat→St→Hp→Prop)(h0:Pv 0 σ H)
  (hs:∀i σ H,i<n→Pv i σ H→g (.int (lo+i)) σ H fun σ2 H2=>tb {D with nx:=Pv (i+1),ct:=Pv (i+1),bk:=D.nx} σ2 H2)(hd:∀σ H,Pv n σ H→D.nx σ H):
  ∃W:Nat→Nat→St→Hp→Prop,(∃m,W 0 m σ H)∧∀i m σ H,W i m σ H→
   ((Itr lo n).stop i H∧D.nx σ H)∨((Itr lo n).go i H∧∃N:St→Hp→Prop,(∀σ' H',N σ' H'→∃m',m'<m∧W (i+1) m' σ' H')∧∀x H',(Itr lo n).yld i H x H'→g x σ H' fun σ2 H2=>tb {D with nx:=N,ct:=N,bk:=D.nx} σ2 H2):=by
 refine⟨fun i m σ H=>m=n-i∧i≤n∧Pv i σ H,⟨n,by simp,Nat.zero_le _,h0⟩,?_⟩
 rintro i m σ H ⟨rfl,hi,p⟩
 by_cases hlt:i<n
 ·
  refine .inr ⟨hlt,Pv (i+1),fun σ' H' p'=>⟨n-(i+1),by omega,rfl,hlt,p'⟩,fun x H' y=>?_⟩
  obtain⟨e,y⟩:=y
  subst e y
  exact hs i σ _ hlt p
 ·
  have e:i=n:=by omega
  subst e
  exact .inl ⟨Nat.le_refl _,hd σ H p⟩
theorem while_by {c:TT}{tb:TS}{D:Ends}{σ:St}{H:Hp}(Pv:St→Hp→Prop)(μ:St→Hp→Nat)(h0:Pv σ H)
  (hs:∀σ H,Pv σ H→c σ H fun b H1=>if b=true then tb {D with nx:=fun σ' H'=>Pv σ' H'∧μ σ' H'<μ σ H,ct:=fun σ' H'=>Pv σ' H'∧μ σ' H'<μ σ H,bk:=D.nx} σ H1 else D.nx σ H1)
  (mono:∀σ H Q Q',(∀b H1,Q b H1→Q' b H1)→c σ H Q→c σ H Q'):tWhile c tb D σ H:=by
 refine⟨fun m σ H=>m=μ σ H∧Pv σ H,⟨_,rfl,h0⟩,?_⟩
 rintro m σ H ⟨rfl,p⟩
 refine mono σ H _ _ (fun b H1 q=>?_) (hs σ H p)
 cases b with
 | true=>exact⟨_,fun σ' H' ⟨p',l⟩=>⟨_,l,rfl,p'⟩,q⟩
 | false=>exact q
end L2
namespace L2
open PySem PySem.Spec PyProof.Rows
abbrev R2:=V→V→Hp→VK→Prop
def OpR (X:Cx)(f:Value→Value→Sem Value)(r:R2):Prop:=
 ∀(pins:List (Addr×Obj)) (s:Shared) (σ:St) (H:Hp) (x y:V) (v u:Value) (Q:VK),Inv X pins σ H s→AW x v→AW y u→r x y H Q→
  wpAny (model X.prog X.w) X.A (f v u) (EP X pins σ Q) X.xe s
def UnR (X:Cx)(f:Value→Sem Value)(r:V→Hp→VK→Prop):Prop:=
 ∀(pins:List (Addr×Obj)) (s:Shared) (σ:St) (H:Hp) (x:V) (v:Value) (Q:VK),Inv X pins σ H s→AW x v→r x H Q→
  wpAny (model X.prog X.w) X.A (f v) (EP X pins σ Q) X.xe s
def CallR (X:Cx)(f:Value)(r:List V→Hp→VK→Prop):Prop:=
 ∀(pins:List (Addr×Obj)) (s:Shared) (σ:St) (H:Hp) (xs:List V) (us:List Value) (Q:VK),Inv X pins σ H s→AG xs us→r xs H Q→
  wpAny (model X.prog X.w) X.A (call f us) (EP X pins σ Q) X.xe s
def tOp (r:R2)(ta tb:TE):TE:=fun σ H Q=>ta σ H fun x H1=>tb σ H1 fun y H2=>r x y H2 Q
def tUn (r:V→Hp→VK→Prop)(ta:TE):TE:=fun σ H Q=>ta σ H fun x H1=>r x H1 Q
def rI (C:Int→Int→Prop)(g:Int→Int→V):R2:=fun x y H Q=>∃i j,x=.int i∧y=.int j∧C i j∧Q (g i j) H
def rI0 (g:Int→Int→V):R2:=fun x y H Q=>∃i j,x=.int i∧y=.int j∧Q (g i j) H
def rU (g:Int→V):V→Hp→VK→Prop:=fun x H Q=>∃i,x=.int i∧Q (g i) H
section
variable {X:Cx}{a b c:Expr}{ta tb tc:TE}{pos:Pos}
theorem binT (ha:PE X a ta)(hb:PE X b tb){pins:List (Addr×Obj)}{s:Shared}{σ:St}{H:Hp}{R:V→V→Hp→Prop}(I:Inv X pins σ H s)
  (h:ta σ H fun x H1=>tb σ H1 fun y H2=>R x y H2){Q:Value→Shared→Prop}{f:Value→Value→Sem Value}
  (hf:∀v u s2 x y H2,Inv X pins σ H2 s2→AW x v→AW y u→R x y H2→wpAny (model X.prog X.w) X.A (f v u) Q X.xe s2):
  wpAny (model X.prog X.w) X.A (eval a X.env) (fun v s₁=>wpAny (model X.prog X.w) X.A (eval b X.env) (fun u s₂=>wpAny (model X.prog X.w) X.A (f v u) Q X.xe s₂) X.xe s₁) X.xe s:=by
 refine thn (ha pins s σ H _ I h) fun v s1 ⟨x,H1,I1,r1,q1⟩=>?_
 refine thn (hb pins s1 σ H1 _ I1 q1) fun u s2 ⟨y,H2,I2,r2,q2⟩=>?_
 exact hf v u s2 x y H2 I2 r1 r2 q2
theorem AH {op:Operator}{r:R2}(ho:OpR X (binaryOp op) r)(ha:PE X a ta)(hb:PE X b tb):PE X (.BinOp a op b pos) (tOp r ta tb):=by
 intro pins s σ H Q I h
 exact wpAny_BinOp (binT ha hb I h fun v u s2 x y H2 I2 rx ry q=>ho pins s2 σ H2 x y v u Q I2 rx ry q)
theorem pe_un {op:UnaryOp}{r:V→Hp→VK→Prop}(ho:UnR X (unaryOp op) r)(ha:PE X a ta):PE X (.UnaryOp op a pos) (tUn r ta):=by
 intro pins s σ H Q I h
 exact UnaryOp_ (thn (ha pins s σ H _ I h) fun v s1 ⟨x,H1,I1,r1,q1⟩=>ho pins s1 σ H1 x v Q I1 r1 q1)
theorem opI {f:Value→Value→Sem Value}{C:Int→Int→Prop}{g:Int→Int→Int}
  (rule:∀(i j:Int) (t u:Tok) (s:Shared) (Q:Value→Shared→Prop) (E:Value→Shared→Prop),C i j→Q (.int (g i j) s.toks) {s with toks:=s.toks+1}→wpAny (model X.prog X.w) X.A (f (.int i t) (.int j u)) Q E s):
  OpR X f (rI C fun i j=>.int (g i j)):=by
 intro pins s σ H x y v u Q I rx ry h
 obtain⟨i,j,rfl,rfl,hc,q⟩:=h
 obtain⟨t,rfl⟩:=rx
 obtain⟨t',rfl⟩:=ry
 exact rule i j t t' s _ _ hc ⟨.int (g i j),H,I.tok _,⟨_,rfl⟩,q⟩
theorem opI0 {f:Value→Value→Sem Value}{g:Int→Int→Int}
  (rule:∀(i j:Int) (t u:Tok) (s:Shared) (Q:Value→Shared→Prop) (E:Value→Shared→Prop),Q (.int (g i j) s.toks) {s with toks:=s.toks+1}→wpAny (model X.prog X.w) X.A (f (.int i t) (.int j u)) Q E s):
  OpR X f (rI0 fun i j=>.int (g i j)):=by
 intro pins s σ H x y v u Q I rx ry h
 obtain⟨i,j,rfl,rfl,q⟩:=h
 obtain⟨t,rfl⟩:=rx
 obtain⟨t',rfl⟩:=ry
 exact rule i j t t' s _ _ ⟨.int (g i j),H,I.tok _,⟨_,rfl⟩,q⟩
theorem opB0 {f:Value→Value→Sem Value}{g:Int→Int→Bool}
  (rule:∀(i j:Int) (t u:Tok) (s:Shared) (Q:Value→Shared→Prop) (E:Value→Shared→Prop),Q (.bool (g i j)) s→wpAny (model X.prog X.w) X.A (f (.int i t) (.int j u)) Q E s):
  OpR X f (rI0 fun i j=>.bl (g i j)):=by
 intro pins s σ H x y v u Q I rx ry h
 obtain⟨i,j,rfl,rfl,q⟩:=h
 obtain⟨t,rfl⟩:=rx
 obtain⟨t',rfl⟩:=ry
 exact rule i j t t' s _ _ ⟨.bl (g i j),H,I,rfl,q⟩
def CMul (i j:Int):Prop:=(-(2^64)<i∧i<2^64)∨(-(2^64)<j∧j<2^64)
theorem CMul.ok {i j:Int}(h:CMul i j):IntMulOk i j:=by
 rcases h with ⟨h1,h2⟩ | ⟨h1,h2⟩
 ·
  exact .of_left (intBits_le_64 h1 h2)
 ·
  exact .of_right (intBits_le_64 h1 h2)
theorem op_add:OpR X (binaryOp .Add) (rI0 fun i j=>.int (i+j)):=opI0 fun _ _ _ _ _ _ _ q=>add_int q
theorem op_sub:OpR X (binaryOp .Sub) (rI0 fun i j=>.int (i-j)):=opI0 fun _ _ _ _ _ _ _ q=>sub_int q
theorem op_mul:OpR X (binaryOp .Mult) (rI CMul fun i j=>.int (i*j)):=opI fun _ _ _ _ _ _ _ hc q=>mul_int q hc.ok
theorem op_mod:OpR X (binaryOp .Mod) (rI (fun _ j=>0<j) fun i j=>.int (i%j)):=opI fun i j _ _ _ _ _ hc q=>by
 have h1:(0:Int)<j:=hc
 exact mod_int' (by omega) (by rw[Int.fmod_eq_emod_of_nonneg i (by omega)];exact q)
theorem unI {f:Value→Sem Value}{g:Int→Int}
  (rule:∀(i:Int) (t:Tok) (s:Shared) (Q:Value→Shared→Prop) (E:Value→Shared→Prop),Q (.int (g i) s.toks) {s with toks:=s.toks+1}→wpAny (model X.prog X.w) X.A (f (.int i t)) Q E s):
  UnR X f (rU fun i=>.int (g i)):=by
 intro pins s σ H x v Q I rx h
 obtain⟨i,rfl,q⟩:=h
 obtain⟨t,rfl⟩:=rx
 exact rule i t s _ _ ⟨.int (g i),H,I.tok _,⟨_,rfl⟩,q⟩
theorem un_neg:UnR X (unaryOp .USub) (rU fun i=>.int (-i)):=unI fun _ _ _ _ _ q=>neg_int q
end
def scal:V→V→Bool
 | .non,.non=>true | .non,.int _=>true | .int _,.non=>true | .non,.bl _=>true | .bl _,.non=>true | .non,.str _=>true | .str _,.non=>true
 | .int _,.int _=>true | .bl _,.bl _=>true | .str _,.str _=>true | .byt _,.byt _=>true
 | .int _,.str _=>true | .str _,.int _=>true | .bl _,.str _=>true | .str _,.bl _=>true
 | _,_=>false
def rEq:R2:=fun x y H Q=>scal x y=true∧Q (.bl (decide (x=y))) H
def rNe:R2:=fun x y H Q=>scal x y=true∧Q (.bl (!decide (x=y))) H
theorem dec_int {i j:Int}:decide (V.int i=V.int j)=(i==j):=by
 rw[Bool.eq_iff_iff]
 simp
theorem dec_bl {i j:Bool}:decide (V.bl i=V.bl j)=(i==j):=by
 rw[Bool.eq_iff_iff]
 simp
theorem dec_str {i j:Str}:decide (V.str i=V.str j)=(i==j):=by
 rw[Bool.eq_iff_iff]
 simp
theorem dec_byt {i j:Array UInt8}:decide (V.byt i=V.byt j)=(i.toList==j.toList):=by
 rw[Bool.eq_iff_iff]
 cases i
 cases j
 simp
section
variable {X:Cx}{a b c:Expr}{ta tb tc:TE}{pos:Pos}
theorem AZ {pins:List (Addr×Obj)}{σ:St}{H:Hp}{s:Shared}{Q:VK}{k k':Bool}(I:Inv X pins σ H s)(q:Q (.bl k) H)(e:k=k'):EP X pins σ Q (.bool k') s:=by
 subst e
 exact⟨.bl k,H,I,rfl,q⟩
theorem op_eq:OpR X (compareOp .Eq) rEq:=by
 intro pins s σ H x y v u Q I rx ry h
 obtain⟨hs,q⟩:=h
 cases x with
 |
  non=>
  cases rx
  cases y with
  | non=>cases ry;exact PySem.EqNone.eq_none_none (AZ I q (by simp))
  | bl j=>cases ry;exact PySem.EqNone.eq_none_bool (AZ I q (by simp))
  | int j=>obtain⟨t',rfl⟩:=ry;exact PySem.EqNone.eq_none_int (AZ I q (by simp))
  | str j=>obtain⟨t',rfl⟩:=ry;exact PySem.EqNone.eq_none_str (AZ I q (by simp))
  | _=>exact absurd (show false=true from hs) Bool.false_ne_true
 |
  bl i=>
  cases rx
  cases y with
  | non=>cases ry;exact PySem.EqNone.eq_bool_none (AZ I q (by simp))
  | bl j=>cases ry;exact eq_bool (AZ I q dec_bl)
  | str j=>obtain⟨t',rfl⟩:=ry;exact PySem.EqMixed.eq_bool_str (AZ I q (by simp))
  | _=>exact absurd (show false=true from hs) Bool.false_ne_true
 |
  int i=>
  obtain⟨t,rfl⟩:=rx
  cases y with
  | non=>cases ry;exact PySem.EqNone.eq_int_none (AZ I q (by simp))
  | int j=>obtain⟨t',rfl⟩:=ry;exact eq_int (AZ I q dec_int)
  | str j=>obtain⟨t',rfl⟩:=ry;exact PySem.EqMixed.eq_int_str (AZ I q (by simp))
  | _=>exact absurd (show false=true from hs) Bool.false_ne_true
 |
  str i=>
  obtain⟨t,rfl⟩:=rx
  cases y with
  | non=>cases ry;exact PySem.EqNone.eq_str_none (AZ I q (by simp))
  | bl j=>cases ry;exact PySem.EqMixed.eq_str_bool (AZ I q (by simp))
  | int j=>obtain⟨t',rfl⟩:=ry;exact PySem.EqMixed.eq_str_int (AZ I q (by simp))
  | str j=>obtain⟨t',rfl⟩:=ry;exact eq_str (AZ I q dec_str)
  | _=>exact absurd (show false=true from hs) Bool.false_ne_true
 |
  byt i=>
  obtain⟨t,rfl⟩:=rx
  cases y with
  | byt j=>obtain⟨t',rfl⟩:=ry;exact PySem.W.eq_bytes (AZ I q dec_byt)
  | _=>exact absurd (show false=true from hs) Bool.false_ne_true
 | _=>cases y<;>exact absurd (show false=true from hs) Bool.false_ne_true
theorem op_ne:OpR X (compareOp .NotEq) rNe:=by
 intro pins s σ H x y v u Q I rx ry h
 obtain⟨hs,q⟩:=h
 cases x with
 |
  non=>
  cases rx
  cases y with
  | non=>cases ry;exact PySem.EqNone.ne_none_none (AZ I q (by simp))
  | bl j=>cases ry;exact PySem.EqNone.ne_none_bool (AZ I q (by simp))
  | int j=>obtain⟨t',rfl⟩:=ry;exact PySem.EqNone.ne_none_int (AZ I q (by simp))
  | str j=>obtain⟨t',rfl⟩:=ry;exact PySem.EqNone.ne_none_str (AZ I q (by simp))
  | _=>exact absurd (show false=true from hs) Bool.false_ne_true
 |
  bl i=>
  cases rx
  cases y with
  | non=>cases ry;exact PySem.EqNone.ne_bool_none (AZ I q (by simp))
  | bl j=>cases ry;exact ne_bool (AZ I q (congrArg not dec_bl))
  | str j=>obtain⟨t',rfl⟩:=ry;exact PySem.EqMixed.ne_bool_str (AZ I q (by simp))
  | _=>exact absurd (show false=true from hs) Bool.false_ne_true
 |
  int i=>
  obtain⟨t,rfl⟩:=rx
  cases y with
  | non=>cases ry;exact PySem.EqNone.ne_int_none (AZ I q (by simp))
  | int j=>obtain⟨t',rfl⟩:=ry;exact ne_int (AZ I q (congrArg not dec_int))
  | str j=>obtain⟨t',rfl⟩:=ry;exact PySem.EqMixed.ne_int_str (AZ I q (by simp))
  | _=>exact absurd (show false=true from hs) Bool.false_ne_true
 |
  str i=>
  obtain⟨t,rfl⟩:=rx
  cases y with
  | non=>cases ry;exact PySem.EqNone.ne_str_none (AZ I q (by simp))
  | bl j=>cases ry;exact PySem.EqMixed.ne_str_bool (AZ I q (by simp))
  | int j=>obtain⟨t',rfl⟩:=ry;exact PySem.EqMixed.ne_str_int (AZ I q (by simp))
  | str j=>obtain⟨t',rfl⟩:=ry;exact ne_str (AZ I q (congrArg not dec_str))
  | _=>exact absurd (show false=true from hs) Bool.false_ne_true
 |
  byt i=>
  obtain⟨t,rfl⟩:=rx
  cases y with
  | byt j=>obtain⟨t',rfl⟩:=ry;exact PySem.W.ne_bytes (AZ I q (congrArg not dec_byt))
  | _=>exact absurd (show false=true from hs) Bool.false_ne_true
 | _=>cases y<;>exact absurd (show false=true from hs) Bool.false_ne_true
theorem op_lt:OpR X (compareOp .Lt) (rI0 fun i j=>.bl (decide (i<j))):=opB0 fun _ _ _ _ _ _ _ q=>lt_int q
theorem op_le:OpR X (compareOp .LtE) (rI0 fun i j=>.bl (decide (i≤j))):=opB0 fun _ _ _ _ _ _ _ q=>le_int q
theorem op_gt:OpR X (compareOp .Gt) (rI0 fun i j=>.bl (decide (j<i))):=opB0 fun _ _ _ _ _ _ _ q=>gt_int q
theorem AA (b:Expr){op:CmpOp}(h:op≠.In:=by decide)(h2:op≠.NotIn:=by decide):behindInMarks op b=false:=by
 have e1:(op==CmpOp.In)=false:=by cases op<;>first | rfl | exact absurd rfl h
 have e2:(op==CmpOp.NotIn)=false:=by cases op<;>first | rfl | exact absurd rfl h2
 cases b<;>simp[behindInMarks,e1,e2]
theorem pe_cmpR {op:CmpOp}{r:R2}(ho:OpR X (compareOp op) r)(ha:PE X a ta)(hb:PE X b tb)(hm:behindInMarks op b=false):PE X (.Compare a [op] [b] pos) (tOp r ta tb):=by
 intro pins s σ H Q I h
 exact wpAny_Compare1 (binT ha hb I h fun v u s2 x y H2 I2 rx ry q=>ho pins s2 σ H2 x y v u Q I2 rx ry q) hm
def tTest (t:TE):TT:=fun σ H Q=>t σ H fun x H'=>∃k,x=.bl k∧Q k H'
theorem AB {op:CmpOp}{r:R2}(ho:OpR X (compareOp op) r)(ha:PE X a ta)(hb:PE X b tb)(hm:behindInMarks op b=false):PT X (.Compare a [op] [b] pos) (tTest (tOp r ta tb)):=by
 intro pins s σ H Q I h
 refine wpAny_isTrue_Compare1 (thn (ha pins s σ H _ I h) fun v s1 ⟨x,H1,I1,r1,q1⟩=>thn (hb pins s1 σ H1 _ I1 q1) fun u s2 ⟨y,H2,I2,r2,q2⟩=>
  thn (ho pins s2 σ H2 x y v u _ I2 r1 r2 q2) fun c s3 ⟨z,H3,I3,r3,k,e,q3⟩=>?_) hm
 subst e
 cases r3
 exact wpAny_truthy_bool ⟨H3,I3,q3⟩
theorem line63:(sizeLine:Nat)<2^63:=by rw[sizeLine_eq];decide
theorem vals1 {x:V}{us:List Value}(r:AG [x] us):∃u,us=[u]∧AW x u:=by
 cases r with
 | cons r1 r2=>cases r2;exact⟨_,rfl,r1⟩
theorem vals2 {x y:V}{us:List Value}(r:AG [x,y] us):∃u w',us=[u,w']∧AW x u∧AW y w':=by
 cases r with
 |
  cons r1 r2=>
  cases r2 with
  | cons r3 r4=>cases r4;exact⟨_,_,rfl,r1,r3⟩
theorem call_abs:CallR X (.builtin "abs") (fun xs H Q=>∃i,xs=[.int i]∧Q (.int (if i<0 then -i else i)) H):=by
 intro pins s σ H xs us Q I r h
 obtain⟨i,rfl,q⟩:=h
 obtain⟨u,rfl,t,rfl⟩:=vals1 r
 exact call_abs_int fun u tk=>⟨.int (if i<0 then -i else i),H,I.tok _,⟨_,rfl⟩,q⟩
end
end L2
namespace L2
open PySem PySem.Spec PyProof.Rows
structure ObjM (h:Heap)(x dx C:Addr)(mA:Str→Option Value):Prop where
 obj:h.get? x=some (PySem.W.instObj C dx)
 ns:h.Ns1 dx mA
 ne:dx≠x
theorem lookIn_ns {h:Heap}{dx:Addr}{mA:Str→Option Value}(n:h.Ns1 dx mA):∃od,h.get? dx=some od∧∀name,PySem.W.lookIn name od=some (mA name):=by
 obtain⟨o,es,ep,ho,hd,hk,_,hm⟩:=n
 refine⟨o,ho,fun name=>?_⟩
 have e:=hm name
 unfold nsFind findBy at e
 rw[←Array.find?_toList] at e
 unfold PySem.W.lookIn
 rw[hd]
 dsimp only
 split
 ·
  rename_i y q
  rw[q] at e
  exact congrArg some e
 ·
  rename_i q
  rw[q] at e
  have a:es.toList.any (·.refKey)=false:=by
   rw[List.any_eq_false]
   intro y hy
   obtain⟨z,t,hkey⟩:=hk y (Array.mem_toList_iff.mp hy)
   simp[DictEntry.refKey,hkey]
  have a':¬es.toList.any (·.refKey)=true:=by rw[a];exact Bool.false_ne_true
  rw[if_neg a']
  exact congrArg some e
theorem ObjM.look {h:Heap}{x dx C:Addr}{mA:Str→Option Value}(I:ObjM h x dx C mA):∃od,PySem.W.InstAt h x (PySem.W.instObj C dx) C (some od)∧∀name,PySem.W.lookIn name od=some (mA name):=
 let ⟨od,ho,hl⟩:=lookIn_ns I.ns
 ⟨od,⟨I.obj,rfl,rfl,ho⟩,hl⟩
section
variable {prog:Program}{w:World}{A:Around}{E:Value→Shared→Prop}{s:Shared}{K:PySem.W.Frag}{x dx C f:Addr}{mA:Str→Option Value}{name:Str}{v:Value}
theorem get_map {expr:Bool}{Q:Value→Shared→Prop}(X:K.In s.heap)(I:ObjM s.heap x dx C mA)(hg:PySem.W.plainGet K C name=true)(hh:PySem.W.hasDictIn K C=true)
  (ha:PySem.W.findIn K (.ref C) name=some none)(hv:mA name=some v)(hv':PySem.W.handedIn v=true)(h:Q v {s with toks:=s.toks+1}):
  wpAny (model prog w) A (getAttr (.ref x) name expr) Q E s:=by
 obtain⟨od,J,hl⟩:=I.look
 exact PySem.W.get_value X J (PySem.W.plainGet_of hg).1 (PySem.W.findObj_own hh ha rfl (by rw[hl,hv])) hv' h
theorem get_meth {pl:Sem Bool}{Q:Value×List Value→Shared→Prop}(X:K.In s.heap)(I:ObjM s.heap x dx C mA)(hg:PySem.W.plainGet K C name=true)
  (hf:PySem.W.findIn K (.ref C) name=some (some (.ref f)))(ht:PySem.W.isFn K (.ref f)=true)(hv:mA name=none)(h:Q (.ref f,[.ref x]) s):
  wpAny (model prog w) A (getMethod (.ref x) name pl) Q E s:=by
 obtain⟨od,J,hl⟩:=I.look
 exact PySem.W.method_fn X J (PySem.W.plainGet_of hg).1 (PySem.W.plainGet_of hg).2 hf (beq_iff_eq.mp ht) (by show (PySem.W.lookIn name od).map (·.isSome)=some false;rw[hl,hv];rfl) h
theorem set_map {ns:List Str}{Q:Unit→Shared→Prop}(X:K.In s.heap)(I:ObjM s.heap x dx C mA)
  (hs:PySem.W.findIn K (.ref C) "__setattr__"=some (some (.builtin "object.__setattr__")))(hp:PySem.W.plainOver K C=true)(ht:PySem.W.takerIn K C name=some none)(hh:PySem.W.hasDictIn K C=true)
  (hw:PySem.Within mA ns)(hsz:ns.length≤sizeLine)
  (h:∀h',ObjM h' x dx C (fun y=>if y=name then some v else mA y)→Heap.SameBut dx s.heap h'→Q () {s with heap:=h',toks:=s.toks+2}):
  wpAny (model prog w) A (setAttr (.ref x) name v) Q E s:=by
 obtain⟨od,J,hl⟩:=I.look
 refine PySem.W.set_plain X J hs (PySem.W.osa_open (s:={s with toks:=s.toks+1}) (r:=none) X J hp ht fun b=>?_)
 obtain⟨cd,hc,hd'⟩:=PySem.W.any_some hh
 have hx:s.heap.get? x=some ⟨.ref C,some dx,.plain,#[]⟩:=I.obj
 refine wpAny_bind (wpAny_pure (wpAny_bind (wpAny_bind (wpAny_loadPart hx (wpAny_bind (PySem.W.Looks.here (s:={s with toks:=s.toks+1}) (PySem.W.looks_clsIn X hc) ?_))))))
 rw[hd']
 refine wpAny_pure (a:=some dx) (wpAny_bind (wpAny_pure (wpAny_bind ?_)))
 refine wpAny_nsSet1 (s:={s with toks:=s.toks+1}) I.ns fun h' hn2 hs2=>?_
 obtain⟨oD,esD,epD,hoD,hdD,hcD⟩:=hn2.count (PySem.Within.cons name v hw)
 refine wpAny_bind (wpAny_lookBehind hoD (by rw[hdD];exact pastItsLine_dict (Nat.le_trans hcD (by rw[List.length_cons];omega))) ?_)
 exact wpAny_pure (h _ ⟨(hs2.2 _ (Ne.symm I.ne)).trans I.obj,hn2,I.ne⟩ hs2)
theorem make_map {R:Result→Shared→Prop}{vs:List Value}{kw:List (Str×Value)}(X:K.In s.heap)(hm:PySem.W.makesIn K C=true)
  (hi:PySem.W.findIn K (.ref C) "__init__"=some (some (.ref f)))(hf:PySem.W.typeIn K (.ref f)=some (.type "function"))
  (h:codeAny (model prog w) (A.under (.builtin "type.__call__" ⟨.ref C::vs,kw⟩)) (.call (.ref f) ⟨.ref (s.heap.objs.size+1)::vs,kw⟩) (PySem.W.InitBack (s.heap.objs.size+1) R)
   {s with heap:=(s.heap.push PySem.W.emptyDict).push (PySem.W.instObj C s.heap.objs.size)}):
  codeAny (model prog w) A (.call (.ref C) ⟨vs,kw⟩) R s:=by
 obtain⟨hh,g,d,t,os⟩:=s
 exact PySem.W.make_core (PySem.W.makes_of X hm) (PySem.W.looks_findIn X hi) (fun self=>PySem.W.bind_fn X self hf) (.inl rfl) h
end
def putF (f:Str)(v:V):List (Str×V)→List (Str×V)
 | []=>[(f,v)]
 | (g,x)::r=>if g=f then (g,v)::r else (g,x)::putF f v r
theorem lookup_putF (f g:Str)(v:V):∀fs:List (Str×V),(putF f v fs).lookup g=if g=f then some v else fs.lookup g
 |
  []=>by
  show List.lookup g [(f,v)]=_
  by_cases h:g=f
  ·
   have hb:(g==f)=true:=beq_iff_eq.mpr h
   simp only[List.lookup,hb,if_pos h]
  ·
   have hb:(g==f)=false:=beq_eq_false_iff_ne.mpr h
   simp only[List.lookup,hb,if_neg h]
 |
  (k,x)::r=>by
  have ih:=lookup_putF f g v r
  rw[show putF f v ((k,x)::r)=(if k=f then (k,v)::r else (k,x)::putF f v r) from rfl]
  by_cases hk:k=f
  ·
   rw[if_pos hk]
   by_cases h:g=k
   ·
    have hb:(g==k)=true:=beq_iff_eq.mpr h
    simp only[List.lookup,hb,if_pos (h.trans hk)]
   ·
    have hb:(g==k)=false:=beq_eq_false_iff_ne.mpr h
    simp only[List.lookup,hb,if_neg (fun e:g=f=>h (e.trans hk.symm))]
  ·
   rw[if_neg hk]
   by_cases h:g=k
   ·
    have hb:(g==k)=true:=beq_iff_eq.mpr h
    simp only[List.lookup,hb,if_neg (fun e:g=f=>hk (h.symm.trans e))]
   ·
    have hb:(g==k)=false:=beq_eq_false_iff_ne.mpr h
    simp only[List.lookup,hb]
    exact ih
theorem keys_putF (f:Str)(v:V):∀fs:List (Str×V),f∈(putF f v fs).map (·.1)∧∀g,g∈fs.map (·.1)→g∈(putF f v fs).map (·.1)
 | []=>⟨by simp[putF],fun g h=>by simp at h⟩
 |
  (k,x)::r=>by
  obtain⟨i1,i2⟩:=keys_putF f v r
  rw[show putF f v ((k,x)::r)=(if k=f then (k,v)::r else (k,x)::putF f v r) from rfl]
  by_cases hk:k=f
  ·
   rw[if_pos hk]
   subst hk
   exact⟨by simp,fun g h=>by simpa using h⟩
  ·
   rw[if_neg hk]
   refine⟨?_,fun g h=>?_⟩
   ·
    rw[List.map_cons]
    exact List.mem_cons_of_mem _ i1
   ·
    rw[List.map_cons] at h ⊢
    rcases List.mem_cons.mp h with e | e
    ·
     exact List.mem_cons.mpr (.inl e)
    ·
     exact List.mem_cons_of_mem _ (i2 g e)
theorem length_putF (f:Str)(v:V):∀fs:List (Str×V),(putF f v fs).length≤fs.length+1
 | []=>by simp[putF]
 |
  (k,x)::r=>by
  have ih:=length_putF f v r
  rw[show putF f v ((k,x)::r)=(if k=f then (k,v)::r else (k,x)::putF f v r) from rfl]
  by_cases hk:k=f
  ·
   rw[if_pos hk,List.length_cons,List.length_cons];omega
  ·
   rw[if_neg hk,List.length_cons,List.length_cons];omega
theorem RelO.some_of {v:V}{o:Option Value}(r:RelO (some v) o):∃u,o=some u∧AW v u:=by
 cases o with
 | none=>exact (show False from r).elim
 | some u=>exact⟨u,rfl,r⟩
theorem RelO.none_of {o:Option Value}(r:RelO none o):o=none:=by
 cases o with
 | none=>rfl
 | some u=>exact (show False from r).elim
theorem handed_of {v:V}{u:Value}(r:AW v u):PySem.W.handedIn u=true:=by
 cases v with
 | non=>cases (show u=Value.none from r);rfl
 | bl b=>cases (show u=Value.bool b from r);rfl
 | int i=>obtain⟨t,e⟩:=(show ∃t,u=Value.int i t from r);cases e;rfl
 | str x=>obtain⟨t,e⟩:=(show ∃t,u=Value.str x t from r);cases e;rfl
 | byt b=>obtain⟨t,e⟩:=(show ∃t,u=Value.bytes b t from r);cases e;rfl
 | flt b=>obtain⟨t,e⟩:=(show ∃t,u=Value.float b t from r);cases e;rfl
 | ref a=>cases (show u=Value.ref a from r);rfl
 | ty n=>cases (show u=Value.type n from r);rfl
section
variable {P:Program}{w:World}{H H':Hp}{h h':Heap}{a C dx:Addr}{fs fs':List (Str×V)}
theorem ins_get (hok:HOk P w H h)(e:H a=some (.ins C dx fs)):∃mA,ObjM h a dx C mA∧(∀f,RelO (fs.lookup f) (mA f))∧PySem.Within mA (fs.map (·.1))∧fs.length≤1000∧H dx=some (.own a):=by
 obtain⟨d,z,ne,ob,mA,n,r,q⟩:=(show ObjOk P w H h a (.ins C dx fs) from hok a _ e)
 exact⟨mA,⟨ob,n,ne⟩,r,q,z,d⟩
end
structure Cls (K:PySem.W.Frag)(C:Addr):Prop where
 pg:PySem.W.plainGet K C Str.empty=true
 hd:PySem.W.hasDictIn K C=true
 po:PySem.W.plainOver K C=true
 sa:PySem.W.findIn K (.ref C) "__setattr__"=some (some (.builtin "object.__setattr__"))
theorem Cls.get {K:PySem.W.Frag}{C:Addr}(c:Cls K C)(f:Str):PySem.W.plainGet K C f=true:=c.pg
def NoAttr (K:PySem.W.Frag)(C:Addr)(f:Str):Prop:=PySem.W.findIn K (.ref C) f=some none
theorem NoAttr.taker {K:PySem.W.Frag}{C:Addr}{f:Str}(n:NoAttr K C f):PySem.W.takerIn K C f=some none:=by
 unfold PySem.W.takerIn
 rw[show PySem.W.findIn K (.ref C) f=some none from n]
 rfl
structure AT (K:PySem.W.Frag)(C:Addr)(m:Str)(f:Addr):Prop where
 at_:PySem.W.findIn K (.ref C) m=some (some (.ref f))
 fn:PySem.W.isFn K (.ref f)=true
 kp:PySem.W.keepIn K (.ref f)=true
section
variable {X:Cx}{pins:List (Addr×Obj)}{σ:St}{H:Hp}{s:Shared}{a C dx:Addr}{fs:List (Str×V)}{f:Str}{v:V}{A:Around}{E:Value→Shared→Prop}
theorem getattr_ok {b:Bool}{Q:Value→Shared→Prop}(I:Inv X pins σ H s)(e:H a=some (.ins C dx fs))(c:Cls X.K C)(n:NoAttr X.K C f)(l:fs.lookup f=some v)
  (h:∀u s',Inv X pins σ H s'→AW v u→Q u s'):wpAny (model X.prog X.w) A (getAttr (.ref a) f b) Q E s:=by
 obtain⟨mA,O,r,_,_,_⟩:=ins_get I.hok e
 obtain⟨u,hu,ru⟩:=RelO.some_of (v:=v) (o:=mA f) (by rw[←l];exact r f)
 exact get_map I.kIn O (c.get f) c.hd n hu (handed_of ru) (h u _ (I.tok _) ru)
theorem getmeth_ok {m:Str}{g:Addr}{pl:Sem Bool}{Q:Value×List Value→Shared→Prop}(I:Inv X pins σ H s)(e:H a=some (.ins C dx fs))(c:Cls X.K C)(k:AT X.K C m g)(l:fs.lookup m=none)
  (h:Q (.ref g,[.ref a]) s):wpAny (model X.prog X.w) A (getMethod (.ref a) m pl) Q E s:=by
 obtain⟨mA,O,r,_,_,_⟩:=ins_get I.hok e
 have hn:mA m=none:=RelO.none_of (by rw[←l];exact r m)
 exact get_meth I.kIn O (c.get m) k.at_ k.fn hn h
theorem setattr_ok {y:V}{u:Value}{Q:Unit→Shared→Prop}(I:Inv X pins σ H s)(e:H a=some (.ins C dx fs))(c:Cls X.K C)(n:NoAttr X.K C f)(hl:fs.length<1000)(ry:AW y u)
  (h:∀s',Inv X pins σ (upd H a (.ins C dx (putF f y fs))) s'→Q () s'):wpAny (model X.prog X.w) A (setAttr (.ref a) f u) Q E s:=by
 obtain⟨mA,O,r,wi,_,ho⟩:=ins_get I.hok e
 have hz:(fs.map (·.1)).length≤sizeLine:=by rw[List.length_map,sizeLine_eq];omega
 refine set_map I.kIn O c.sa c.po n.taker c.hd wi hz fun h' O' sb=>h _ ?_
 have hd:∃o,h'.get? dx=some o:=let ⟨o,_,_,e',_⟩:=O'.ns;⟨o,e'⟩
 refine I.write (x:=a) (e:=dx) (by rw[e];exact True.intro) (.inr ho) (fun b q hb z=>(sb.2 b hb).trans z) hd ?_
 refine⟨by rw[Ai O.ne];exact ho,?_,O.ne,O'.obj,_,O'.ns,fun g=>?_,fun g hg=>?_⟩
 ·
  have:=length_putF f y fs;omega
 ·
  show RelO ((putF f y fs).lookup g) (if g=f then some u else mA g)
  rw[lookup_putF]
  by_cases q:g=f
  ·
   rw[if_pos q,if_pos q];exact ry
  ·
   rw[if_neg q,if_neg q];exact r g
 ·
  by_cases q:g=f
  ·
   rw[q];exact (keys_putF f y fs).1
  ·
   refine (keys_putF f y fs).2 g (wi g fun z=>hg ?_)
   show (if g=f then some u else mA g)=none
   rw[if_neg q];exact z
theorem Inv.made (I:Inv X pins σ H s):Inv X pins σ (upd (upd H s.heap.objs.size (.own (s.heap.objs.size+1))) (s.heap.objs.size+1) (.ins C s.heap.objs.size []))
  {s with heap:=(s.heap.push PySem.W.emptyDict).push (PySem.W.instObj C s.heap.objs.size)}:=by
 have e1:(s.heap.push PySem.W.emptyDict).get? s.heap.objs.size=some PySem.W.emptyDict:=Heap.get?_push_size s.heap rfl
 have e2:((s.heap.push PySem.W.emptyDict).push (PySem.W.instObj C s.heap.objs.size)).get? (s.heap.objs.size+1)=some (PySem.W.instObj C s.heap.objs.size):=by
  have:=Heap.get?_push_size (s.heap.push PySem.W.emptyDict) (o:=PySem.W.instObj C s.heap.objs.size) rfl
  rwa [Heap.size_push] at this
 have e3:(s.heap.push PySem.W.emptyDict).Ns s.heap.objs.size (fun _=>none):=⟨PySem.W.emptyDict,#[],_,e1,rfl,(fun e he=>absurd he (by simp)),fun _=>rfl⟩
 have I1:=I.laid (a:=s.heap.objs.size) (o:=.own (s.heap.objs.size+1)) (h':=s.heap.push PySem.W.emptyDict) (t':=s.toks) (fun b u q=>Heap.get?_push_of_some _ q) (Nat.le_refl _) ⟨_,e1⟩
 refine I1.laid (a:=s.heap.objs.size+1) (o:=.ins C s.heap.objs.size []) (t':=s.toks) (fun b u q=>Heap.get?_push_of_some _ q) (Nat.le_of_eq (Heap.size_push _ _)) ?_
 have ne:s.heap.objs.size≠s.heap.objs.size+1:=Nat.ne_of_lt (Nat.lt_succ_self _)
 refine⟨by rw[Ai ne,Ab],Nat.zero_le _,ne,e2,fun _=>none,(Heap.Ns1.of_empty e3).at fun o q=>Heap.get?_push_of_some _ q,fun _=>True.intro,fun y hy=>absurd rfl hy⟩
theorem attr_of {prog:Program}{w:World}{env:Env}{e:Expr}{f:Str}{pos:Pos}{s:Shared}{Q:Value→Shared→Prop}(hb:attributeBase e f env (eval e env)=eval e env)
  (h:wpAny (model prog w) A (eval e env) (fun o s₁=>wpAny (model prog w) A (getAttr o f true) Q E s₁) E s):wpAny (model prog w) A (eval (.Attribute e f pos) env) Q E s:=
 Attribute_any_ h (by rw[arm_eval_Attribute,hb])
end
def tFld (K:PySem.W.Frag)(ta:TE)(f:Str):TE:=fun σ H Q=>ta σ H fun x H1=>∃a C dx fs v,x=.ref a∧H1 a=some (.ins C dx fs)∧Cls K C∧NoAttr K C f∧fs.lookup f=some v∧Q v H1
def sFld (K:PySem.W.Frag)(ta tv:TE)(f:Str):TS:=fun D σ H=>tv σ H fun y H1=>ta σ H1 fun x H2=>∃a C dx fs,x=.ref a∧H2 a=some (.ins C dx fs)∧Cls K C∧NoAttr K C f∧fs.length<1000∧
 D.nx σ (upd H2 a (.ins C dx (putF f y fs)))
section
variable {X:Cx}{o e value:Expr}{f:Str}{pos pos' tpos:Pos}{ta tv:TE}
theorem AE (he:PE X e ta)(hb:attributeBase e f X.env (eval e X.env)=eval e X.env):PE X (.Attribute e f pos) (tFld X.K ta f):=by
 intro pins s σ H Q I h
 refine attr_of hb (thn (he pins s σ H _ I h) fun u s1 ⟨x,H1,I1,rx,a,C,dx,fs,v,ex,ea,c,n,l,q⟩=>?_)
 subst ex
 obtain rfl:u=Value.ref a:=rx
 exact getattr_ok I1 ea c n l fun u' s2 I2 ru=>⟨v,H1,I2,ru,q⟩
theorem ps_fld (ha:PE X o ta)(hv:PE X value tv)(hs:swapsWith value (some (.Attribute o f pos')) pos.line X.env=pure false):PS X (.Assign [.Attribute o f pos'] value pos) (sFld X.K ta tv f):=by
 intro pins s σ H D I h
 refine plainObj_wpAny_Assign_Attribute (thn (hv pins s σ H _ I h) fun u s1 ⟨y,H1,I1,ry,q⟩=>thn (ha pins s1 σ H1 _ I1 q) fun ov s2 ⟨x,H2,I2,rx,a,C,dx,fs,ex,ea,c,n,l,q2⟩=>?_) hs
 subst ex
 obtain rfl:ov=Value.ref a:=rx
 exact setattr_ok I2 ea c n l ry fun s3 I3=>⟨σ,_,I3,q2⟩
end
section
variable {X:Cx}{pins:List (Addr×Obj)}{σ:St}{H:Hp}{s:Shared}{A:Around}{E:Value→Shared→Prop}{Q:Value→Shared→Prop}{c:Value}{b:Bool}
end
end L2
namespace L2
open PySem PySem.Spec PyProof.Rows
structure AM (k:Nat)(A:Around):Prop where
 hd:A.handled=none
 dp:A.depth+3*k+5<recursionLimit
 un:A.units+16*k+200<cLine
theorem AM.mono {j k:Nat}{A:Around}(r:AM k A)(h:j≤k):AM j A:=⟨r.hd,by have:=r.dp;omega,by have:=r.un;omega⟩
theorem AM.deeper {k:Nat}{A:Around}(r:AM (k+1) A)(env:Env):AM k (A.deeper env):=
 ⟨r.hd,by have:=r.dp;show A.depth+1+3*k+5<_;omega,by have:=r.un;show A.units+3+16*k+200<_;omega⟩
theorem make_depth {A:Around}{C:Addr}{us:List Value}{kw:List (Str×Value)}:(A.under (.builtin "type.__call__" ⟨.ref C::us,kw⟩)).depth=A.depth+1:=by
 first | rfl | simp[Around.under,Code.weight,Code.isCreation,Code.isGuard,Code.isCaller,Code.frames,Code.isFrame,guardIds]
theorem make_units {A:Around}{C:Addr}{us:List Value}{kw:List (Str×Value)}:(A.under (.builtin "type.__call__" ⟨.ref C::us,kw⟩)).units=A.units+1:=by
 first | rfl | simp[Around.under,Code.cUnits,Code.frames,Code.isFrame]
theorem AM.make {k:Nat}{A:Around}(r:AM (k+1) A)(C:Addr)(us:List Value)(kw:List (Str×Value)):AM k (A.under (.builtin "type.__call__" ⟨.ref C::us,kw⟩)):=
 ⟨r.hd,by have:=r.dp;rw[make_depth];omega,by have:=r.un;rw[make_units];omega⟩
theorem AM.depth {k:Nat}{A:Around}(r:AM k A):A.depth<recursionLimit:=by have:=r.dp;omega
theorem AM.units {k:Nat}{A:Around}(r:AM k A):A.units+64<cLine:=by have:=r.un;omega
def tNil:TA:=fun _ H Q=>Q [] H
def tCons (ta:TE)(tr:TA):TA:=fun σ H Q=>ta σ H fun x H1=>tr σ H1 fun xs H2=>Q (x::xs) H2
section
variable {X:Cx}{e:Expr}{es:List Expr}{te:TE}{t:TA}{pos:Pos}
theorem Ac:PA X [] tNil:=fun _ _ _ _ H Q I h=>Calls.spliced_nil ⟨[],H,I,.nil,h⟩
theorem Aa (ha:PE X e te)(hr:PA X es t)(hs:starEach (e::es) X.env=(false,eval e X.env)::starEach es X.env:=by rfl):PA X (e::es) (tCons te t):=by
 intro pos pins s σ H Q I h
 rw[hs]
 show wpAny _ _ (spliced ((false,eval e X.env)::backTo pos (starEach es X.env))) _ _ s
 refine Calls.spliced_cons (thn (ha pins s σ H _ I h) fun u s1 ⟨x,H1,I1,r1,q1⟩=>?_)
 exact thn (hr pos pins s1 σ H1 _ I1 q1) fun us s2 ⟨xs,H2,I2,r2,q2⟩=>⟨x::xs,H2,I2,.cons r1 r2,q2⟩
def tTup (t:TA):TE:=fun σ H Q=>t σ H fun xs H1=>xs.length≤sizeLine∧∀p,H1 p=none→Q (.ref p) (upd H1 p (.tup xs))
def tLst (t:TA):TE:=fun σ H Q=>t σ H fun xs H1=>xs.length≤sizeLine∧∀p,H1 p=none→Q (.ref p) (upd H1 p (.lst xs))
theorem A6 {x1}(h:PA X es t):PE X (.Tuple es x1 pos) (tTup t):=by
 intro pins s σ H Q I hq
 refine wpAny_Tuple_spliced (thn (h pos pins s σ H _ I hq) fun us s1 ⟨xs,H1,I1,r,z,q⟩=>⟨by rw[←r.length];exact z,?_⟩)
 have hf:H1 s1.heap.objs.size=none:=I1.hok.fresh (Nat.le_refl _)
 refine⟨.ref s1.heap.objs.size,upd H1 s1.heap.objs.size (.tup xs),I1.laid (t':=s1.toks) (fun b u e=>Heap.get?_push_of_some _ e) (Nat.le_refl _) ?_,rfl,q _ hf⟩
 exact⟨z,us,r,⟨_,Heap.get?_push_size _ rfl,rfl,_,rfl⟩,fun o e=>by rw[Heap.get?_push_size _ rfl] at e;cases e;rfl⟩
theorem AD (h:PA X es t):PE X (.List es pos) (tLst t):=by
 intro pins s σ H Q I hq
 refine wpAny_List_spliced (thn (h pos pins s σ H _ I hq) fun us s1 ⟨xs,H1,I1,r,z,q⟩=>⟨by rw[←r.length];exact z,?_⟩)
 have hf:H1 s1.heap.objs.size=none:=I1.hok.fresh (Nat.le_refl _)
 refine⟨.ref s1.heap.objs.size,upd H1 s1.heap.objs.size (.lst xs),I1.laid (t':=s1.toks) (fun b u e=>Heap.get?_push_of_some _ e) (Nat.le_refl _) ?_,rfl,q _ hf⟩
 exact⟨z,us,0,r,Heap.get?_push_size _ rfl⟩
end
abbrev Sp:=List V→Hp→VK→XK→Prop
abbrev CXT:=List Env→Hp→Shared→XK→Value→Shared→Prop
structure Env0 (P:Program)(w:World)(K:PySem.W.Frag)(mg:Str→Option Value)(base:Heap)(A:Around)(outer:List Env)(s:Shared)(H:Hp):Prop where
 frames:A.frames=some outer
 mod:Mod K mg base
 bs:∀b o,base.get? b=some o→s.heap.get? b=some o∧H b=none
 bsz:base.objs.size≤s.heap.objs.size
 funs:s.heap.FunFrames base outer
 frf:∀b∈frs outer,H b=none
 hok:HOk P w H s.heap
 bare:AllBare s.gens
def CE (outer:List Env)(P:Program)(w:World)(H:Hp)(s:Shared)(Q:VK)(u:Value)(s':Shared):Prop:=
 ∃v H',s'.os=s.os∧AllBare s'.gens∧Un (frs outer) [] H H' s.heap s'.heap∧HOk P w H' s'.heap∧AW v u∧Q v H'
def CR (CX:CXT)(outer:List Env)(P:Program)(w:World)(H:Hp)(s:Shared)(Q:VK)(E:XK)(r:Result)(s':Shared):Prop:=
 match r with
 | .ok (.ret u)=>CE outer P w H s Q u s'
 | .ok _=>False
 | .error e=>CX outer H s E e s'
structure Ah (P:Program)(w:World)(K:PySem.W.Frag)(mg:Str→Option Value)(base:Heap)(CX:CXT)(k:Nat)(f:Addr)(fd:FuncData)(ps:List Str)(sp:Sp):Prop where
 len:∀vs H Q E,sp vs H Q E→vs.length=ps.length
 run:∀(A:Around) (outer:List Env) (s:Shared) (H:Hp) (args:Args) (us:List Value) (vs:List V) (Q:VK) (E:XK),AM k A→Env0 P w K mg base A outer s H→BindsTo s fd args (ps.zip us)→AG vs us→sp vs H Q E→
  codeAny (model P w) A (.call (.ref f) args) (CR CX outer P w H s Q E) s
theorem Env0.make {P:Program}{w:World}{K:PySem.W.Frag}{mg:Str→Option Value}{base:Heap}{A:Around}{outer:List Env}{s:Shared}{H:Hp}(e:Env0 P w K mg base A outer s H)(C:Addr)(us:List Value)(kw:List (Str×Value)):
  Env0 P w K mg base (A.under (.builtin "type.__call__" ⟨.ref C::us,kw⟩)) outer s H:=⟨by first | exact e.frames | (simpa [Around.under,Code.envs,Code.isFrame,pushEnvs] using e.frames),e.mod,e.bs,e.bsz,e.funs,e.frf,e.hok,e.bare⟩
section
variable {X:Cx}{pins:List (Addr×Obj)}{σ:St}{H:Hp}{s s':Shared}
theorem Inv.env0 (I:Inv X pins σ H s):Env0 X.prog X.w X.K X.mg X.base X.A X.stack s H:=
 ⟨I.ok.frames,I.ok.mod,I.bs,Nat.le_trans I.ok.bsz I.sz,I.stack,I.stkFree,I.hok,I.bare⟩
theorem Inv.after {Q:VK}{u:Value}(I:Inv X pins σ H s)(h:CE X.stack X.prog X.w H s Q u s'):EP X pins σ Q u s':=by
 obtain⟨v,H',os,bare,un,hok,r,q⟩:=h
 obtain⟨hh,g,d,t,os'⟩:=s'
 obtain rfl:os'=s.os:=os
 exact⟨v,H',I.call (h':=hh) (g':=g) (d':=d) (t':=t) (ch:=[]) un hok bare (fun b z=>absurd z (by simp)),r,q⟩
end
def tCall (sp:Sp)(dvs:List V)(E:XK)(t:TA):TE:=fun σ H Q=>t σ H fun vs H1=>sp (vs++dvs) H1 Q E
def tMeth (C:Addr)(m:Str)(sp:Sp)(dvs:List V)(E:XK)(ta:TE)(t:TA):TE:=fun σ H Q=>ta σ H fun x H1=>∃a dx fs,x=.ref a∧H1 a=some (.ins C dx fs)∧fs.lookup m=none∧
 t σ H1 fun vs H2=>sp (x::(vs++dvs)) H2 Q E
def tMake (C:Addr)(sp:Sp)(dvs:List V)(E:XK)(t:TA):TE:=fun σ H Q=>t σ H fun vs H1=>∀x dx,H1 x=none→H1 dx=none→dx≠x→
 sp (.ref x::(vs++dvs)) (upd (upd H1 dx (.own x)) x (.ins C dx [])) (fun v H2=>v=.non∧Q (.ref x) H2) E
def An (K:PySem.W.Frag)(fd:FuncData)(ps:List Str)(ds:List Value):Prop:=
 ∀(s:Shared) (us:List Value),K.In s.heap→(us++ds).length=ps.length→BindsTo s fd ⟨us,[]⟩ (ps.zip (us++ds))
theorem An.all {K:PySem.W.Frag}{fd:FuncData}{ps:List Str}(h:∀us:List Value,us.length=ps.length→bindArgs fd ⟨us,[]⟩=pure (ps.zip us)):An K fd ps []:=fun s us _ hl=>by
 rw[List.append_nil] at hl ⊢
 exact .of_eq (h us hl)
def Passes (CX:CXT)(X:Cx)(E:XK):Prop:=∀(pins:List (Addr×Obj)) (σ:St) (H:Hp) (s:Shared) (e:Value) (s':Shared),Inv X pins σ H s→CX X.stack H s E e s'→X.xe e s'
section
variable {X:Cx}{CX:CXT}{k:Nat}{f C:Addr}{fd:FuncData}{ps:List Str}{sp:Sp}{dvs:List V}{ds:List Value}{E:XK}{x m:Str}{p pos apos:Pos}{e o:Expr}{es:List Expr}{ta:TE}{t:TA}
theorem run_fn {pins:List (Addr×Obj)}{σ:St}{H:Hp}{s:Shared}{Q:VK}{us:List Value}{vs:List V}(F:Ah X.prog X.w X.K X.mg X.base CX k f fd ps sp)(hr:AM k X.A)(hb:An X.K fd ps ds)(hd:AG dvs ds)(hx:Passes CX X E)
  (I:Inv X pins σ H s)(r:AG vs us)(h:sp (vs++dvs) H Q E):wpAny (model X.prog X.w) X.A (call (.ref f) us) (EP X pins σ Q) X.xe s:=by
 have r2:AG (vs++dvs) (us++ds):=r.append hd
 have hl:(us++ds).length=ps.length:=by rw[←r2.length];exact F.len _ _ _ _ h
 refine wpAny_call (codeAny_mono (F.run X.A X.stack s H ⟨us,[]⟩ (us++ds) (vs++dvs) Q E hr I.env0 (hb s us I.kIn hl) r2 h) fun r s' hq=>?_)
 cases r with
 | error e=>exact hx pins σ H s e s' I hq
 |
  ok fl=>
  cases fl with
  | ret u=>exact I.after hq
  | next=>exact False.elim hq
  | brk=>exact False.elim hq
  | cont=>exact False.elim hq
theorem Aw (F:Ah X.prog X.w X.K X.mg X.base CX k f fd ps sp)(hr:AM k X.A)(hg:Gl X x)(hm:X.mg x=some (.ref f))(hk:PySem.W.keepIn X.K (.ref f)=true)(hb:An X.K fd ps ds)(hd:AG dvs ds)(hx:Passes CX X E)
  (ha:PA X (e::es) t)(hdb:(x==("__debug__":Str))=false:=by decide)(he:starEach (e::es) X.env=(false,eval e X.env)::starEach es X.env:=by rfl)(hpl:(backTo pos (starEach es X.env)).any (·.1)=false:=by rfl):
  PE X (.Call (.Name x p) (e::es) [] pos) (tCall sp dvs E t):=by
 intro pins s σ H Q I h
 refine wpAny_Call_Name_kw (ld_glob I hg hm ?_ hdb)
 refine PySem.W.callWith_K (h₀:=X.base) I.ok.mod.kin hk (thn (ha pos pins s σ H _ I h) fun us s1 ⟨vs,H1,I1,r,q⟩=>⟨I1.kIn,?_⟩) he hpl
 exact run_fn F hr hb hd hx I1 r q
theorem Ay {pl:Sem Bool}(he:PE X o ta)(c:Cls X.K C)(hm:AT X.K C m f)(F:Ah X.prog X.w X.K X.mg X.base CX k f fd ps sp)(hr:AM k X.A)(hb:An X.K fd ps ds)(hd:AG dvs ds)(hx:Passes CX X E)(ha:PA X (e::es) t)
  (hst:starEach (e::es) X.env=(false,eval e X.env)::starEach es X.env:=by rfl)(hpl:(backTo pos (starEach es X.env)).any (·.1)=false:=by rfl)
  (ht:eval (.Call (.Attribute o m apos) (e::es) [] pos) X.env=(do
   let ov←eval o X.env
   standAt apos.atName
   let (f,first)←holding [ov] (getMethod ov m pl)
   callWith pos f first (backTo pos (starEach (e::es) X.env)) (backToKw pos (keywordEach [] X.env))):=by rfl):
  PE X (.Call (.Attribute o m apos) (e::es) [] pos) (tMeth C m sp dvs E ta t):=by
 intro pins s σ H Q I h
 refine PySem.W.methodCall_KW (pl:=pl) (thn (he pins s σ H _ I h) fun u s1 ⟨x,H1,I1,rx,a,dx,fs,ex,ea,l,q⟩=>?_) ht
 subst ex
 obtain rfl:u=Value.ref a:=rx
 refine getmeth_ok I1 ea c hm l ?_
 refine PySem.W.callWith_K (first:=[.ref a]) (h₀:=X.base) I.ok.mod.kin hm.kp (thn (ha pos pins s1 σ H1 _ I1 q) fun us s2 ⟨vs,H2,I2,r,q2⟩=>⟨I2.kIn,?_⟩) hst hpl
 exact run_fn (us:=.ref a::us) (vs:=.ref a::vs) F hr hb hd hx I2 (.cons rfl r) q2
theorem AQ {pl:Sem Bool}(he:PE X o ta)(c:Cls X.K C)(hm:AT X.K C m f)(F:Ah X.prog X.w X.K X.mg X.base CX k f fd ps sp)(hr:AM k X.A)(hb:An X.K fd ps ds)(hd:AG dvs ds)(hx:Passes CX X E)
  (ht:eval (.Call (.Attribute o m apos) [] [] pos) X.env=(do
   let ov←eval o X.env
   standAt apos.atName
   let (f,first)←holding [ov] (getMethod ov m pl)
   callWith pos f first (backTo pos (starEach [] X.env)) (backToKw pos (keywordEach [] X.env))):=by rfl):
  PE X (.Call (.Attribute o m apos) [] [] pos) (tMeth C m sp dvs E ta tNil):=by
 intro pins s σ H Q I h
 refine PySem.W.methodCall_KW (pl:=pl) (thn (he pins s σ H _ I h) fun u s1 ⟨x,H1,I1,rx,a,dx,fs,ex,ea,l,q⟩=>?_) ht
 subst ex
 obtain rfl:u=Value.ref a:=rx
 refine getmeth_ok I1 ea c hm l ?_
 exact PySem.W.callWith_K0 (first:=[.ref a]) I1.kIn hm.kp (run_fn (us:=[.ref a]) (vs:=[.ref a]) F hr hb hd hx I1 (.cons rfl .nil) q)
structure Mk (K:PySem.W.Frag)(C f:Addr):Prop where
 makes:PySem.W.makesIn K C=true
 init:PySem.W.findIn K (.ref C) "__init__"=some (some (.ref f))
 fn:PySem.W.isFn K (.ref f)=true
 kp:PySem.W.keepIn K (.ref C)=true
theorem run_make {pins:List (Addr×Obj)}{σ:St}{H:Hp}{s:Shared}{Q:VK}{us:List Value}{vs:List V}(M:Mk X.K C f)(F:Ah X.prog X.w X.K X.mg X.base CX k f fd ps sp)(hr:AM (k+1) X.A)(hb:An X.K fd ps ds)(hd:AG dvs ds)
  (hx:Passes CX X E)(I:Inv X pins σ H s)(r:AG vs us)
  (h:∀x dx,H x=none→H dx=none→dx≠x→sp (.ref x::(vs++dvs)) (upd (upd H dx (.own x)) x (.ins C dx [])) (fun v H2=>v=.non∧Q (.ref x) H2) E):
  wpAny (model X.prog X.w) X.A (call (.ref C) us) (EP X pins σ Q) X.xe s:=by
 have hq:=h (s.heap.objs.size+1) s.heap.objs.size (I.hok.fresh (Nat.le_succ _)) (I.hok.fresh (Nat.le_refl _)) (Nat.ne_of_lt (Nat.lt_succ_self _))
 have I2:=Inv.made (C:=C) I
 have r2:AG (V.ref (s.heap.objs.size+1)::(vs++dvs)) (Value.ref (s.heap.objs.size+1)::(us++ds)):=.cons rfl (r.append hd)
 have hl:(Value.ref (s.heap.objs.size+1)::us++ds).length=ps.length:=by
  have e:=r2.length
  rw[F.len _ _ _ _ hq] at e
  exact e.symm
 refine wpAny_call (make_map (f:=f) I.kIn M.makes M.init (beq_iff_eq.mp M.fn) (codeAny_mono (F.run _ X.stack _ _ ⟨Value.ref (s.heap.objs.size+1)::us,[]⟩ (Value.ref (s.heap.objs.size+1)::(us++ds)) _ _ E (hr.make C us [])
  (I2.env0.make C us []) (hb _ (Value.ref (s.heap.objs.size+1)::us) I2.kIn hl) r2 hq) fun r s' hq'=>?_))
 cases r with
 | error e=>exact hx pins σ _ _ e s' I2 hq'
 |
  ok fl=>
  cases fl with
  |
   ret u=>
   obtain⟨v,H',I3,rv,ev,q3⟩:=I2.after hq'
   subst ev
   exact⟨rv,⟨V.ref (s.heap.objs.size+1),H',I3,rfl,q3⟩⟩
  | next=>exact False.elim hq'
  | brk=>exact False.elim hq'
  | cont=>exact False.elim hq'
theorem pe_make0 (M:Mk X.K C f)(F:Ah X.prog X.w X.K X.mg X.base CX k f fd ps sp)(hr:AM (k+1) X.A)(hg:Gl X x)(hm:X.mg x=some (.ref C))(hb:An X.K fd ps ds)(hd:AG dvs ds)(hx:Passes CX X E)
  (hdb:(x==("__debug__":Str))=false:=by decide):PE X (.Call (.Name x p) [] [] pos) (tMake C sp dvs E tNil):=by
 intro pins s σ H Q I h
 refine wpAny_Call_Name_kw (ld_glob I hg hm ?_ hdb)
 exact PySem.W.callWith_K0 I.kIn M.kp (run_make (us:=[]) M F hr hb hd hx I .nil h)
end
section
variable {X:Cx}{CX:CXT}{k:Nat}{f C:Addr}{fd:FuncData}{ps ks:List Str}{sp:Sp}{E:XK}{x m:Str}{p pos apos kpos:Pos}{e o:Expr}{es:List Expr}{kws:List Keyword}{te ta:TE}{t tk:TA}{nm:Option Str}
variable {g:List Value→List Value→List Value}{gV:List V→List V→List V}
end
structure Aq (N P:List Str)(sc:Scope):Prop where
 kind:sc.kind=.function
 co:sc.isCoroutine=false
 gen:sc.isGenerator=false
 nd:N.Nodup
 pre:N.take P.length=P
 par:∀x∈P,sc.names.lookup x=some .local∨sc.names.lookup x=some .cell
 nofree:∀y∈sc.names,y.2≠.free
theorem bindL_out {kindOf:Str→Option NameKind}{x:Str}:∀{binds:List (Str×Value)} {m:Str→Option Value},(∀v,(x,v)∉binds)→bindL kindOf binds m x=m x
 | [],_,_=>rfl
 |
  (n,v)::r,m,h=>by
  unfold bindL
  rw[bindL_out fun w hw=>h w (List.mem_cons_of_mem _ hw)]
  split
  ·
   have:x≠n:=by rintro rfl;exact h v List.mem_cons_self
   simp[this]
  ·
   rfl
theorem bindC_out {kindOf:Str→Option NameKind}{x:Str}:∀{binds:List (Str×Value)} {m:Str→Option Value},(∀v,(x,v)∉binds)→bindC kindOf binds m x=m x
 | [],_,_=>rfl
 |
  (n,v)::r,m,h=>by
  unfold bindC
  rw[bindC_out fun w hw=>h w (List.mem_cons_of_mem _ hw)]
  split
  ·
   rfl
  ·
   have:x≠n:=by rintro rfl;exact h v List.mem_cons_self
   simp[this]
theorem bindL_get {kindOf:Str→Option NameKind}{x:Str}{v:Value}:∀{P:List Str} {vs:List Value} {i:Nat} {m:Str→Option Value},P.Nodup→P[i]?=some x→vs[i]?=some v→kindOf x=some .local→
  bindL kindOf (P.zip vs) m x=some v
 | [],_,_,_,_,h,_,_=>by simp at h
 | _::_,[],_,_,_,_,h,_=>by simp at h
 |
  p::P,w::vs,0,m,nd,h1,h2,hk=>by
  simp at h1 h2;subst h1;subst h2
  show bindL kindOf ((p,w)::P.zip vs) m p=_
  unfold bindL
  rw[bindL_out fun v hv=>(List.nodup_cons.mp nd).1 (List.of_mem_zip hv).1,if_pos hk]
  simp
 |
  p::P,w::vs,i+1,m,nd,h1,h2,hk=>by
  show bindL kindOf ((p,w)::P.zip vs) m x=_
  unfold bindL
  exact bindL_get (i:=i) (List.nodup_cons.mp nd).2 (by simpa using h1) (by simpa using h2) hk
theorem bindC_get {kindOf:Str→Option NameKind}{x:Str}{v:Value}:∀{P:List Str} {vs:List Value} {i:Nat} {m:Str→Option Value},P.Nodup→P[i]?=some x→vs[i]?=some v→kindOf x≠some .local→
  bindC kindOf (P.zip vs) m x=some v
 | [],_,_,_,_,h,_,_=>by simp at h
 | _::_,[],_,_,_,_,h,_=>by simp at h
 |
  p::P,w::vs,0,m,nd,h1,h2,hk=>by
  simp at h1 h2;subst h1;subst h2
  show bindC kindOf ((p,w)::P.zip vs) m p=_
  unfold bindC
  rw[bindC_out fun v hv=>(List.nodup_cons.mp nd).1 (List.of_mem_zip hv).1,if_neg hk]
  simp
 |
  p::P,w::vs,i+1,m,nd,h1,h2,hk=>by
  show bindC kindOf ((p,w)::P.zip vs) m x=_
  unfold bindC
  exact bindC_get (i:=i) (List.nodup_cons.mp nd).2 (by simpa using h1) (by simpa using h2) hk
def start (N:List Str)(vs:List V):St:=vs.map some++List.replicate (N.length-vs.length) none
def cxOf (CX:CXT)(P:Program)(w:World)(K:PySem.W.Frag)(mg:Str→Option Value)(base:Heap)(N:List Str)(qual:Str)(scope:Scope)(f:Addr)(cd:Value)(A:Around)(outer:List Env)(s:Shared)(H:Hp)(E:XK):Cx where
 prog:=P
 w:=w
 K:=K
 mg:=mg
 base:=base
 A:=A.deeper (envOfC qual scope s.heap.objs.size f cd)
 N:=N
 s_0:=s
 H_0:=H
 env:=envOfC qual scope s.heap.objs.size f cd
 outer:=outer
 stack:=envOfC qual scope s.heap.objs.size f cd::outer
 ex:=[]
 calm:=true
 fn:=fun _=>true
 pn:=[]
 xe:=fun e s'=>wpAny (model P w) (A.deeper (envOfC qual scope s.heap.objs.size f cd)) (leaving (envOfC qual scope s.heap.objs.size f cd) e) (fun _ s''=>CX outer H s E e s'') (fun e' s''=>CX outer H s E e' s'') s'
theorem cell_has {sc:Scope}{n:Nat}{x:Str}(h:sc.names.lookup x=some .cell):∃c,(cellsFrom n sc.names []).lookup x=some c:=by
 have q:=PySem.W.cellsFrom_some sc.names n [] (.inl h)
 exact Option.isSome_iff_exists.mp q
theorem inv_start {CX:CXT}{P:Program}{w:World}{K:PySem.W.Frag}{mg:Str→Option Value}{base:Heap}{N ps:List Str}{qual:Str}{scope:Scope}{f:Addr}{cd:Value}{A:Around}{outer:List Env}{s s1:Shared}{H:Hp}{E:XK}{us:List Value}{vs:List V}
  (S:Aq N ps scope)(hd:A.handled=none)(e0:Env0 P w K mg base A outer s H)(hl:vs.length=ps.length)(r:AG vs us)
  (x:InCallC s s.heap.objs.size (bindL (envOfC qual scope s.heap.objs.size f cd).kindOf (ps.zip us) fun _=>none) (cellsFrom (s.heap.objs.size+1) scope.names []) (bindC (envOfC qual scope s.heap.objs.size f cd).kindOf (ps.zip us) fun _=>none) s1):
  Inv (cxOf CX P w K mg base N qual scope f cd A outer s H E) [] (start N vs) H s1:=by
 have hpl:ps.length≤N.length:=by have:=congrArg List.length S.pre;rw[List.length_take] at this;omega
 obtain⟨h1,tk,rfl,hk⟩:=x.done
 have noA:∀b:Addr,b∉(cxOf CX P w K mg base N qual scope f cd A outer s H E).ex:=fun b z=>absurd (show b∈([]:List Addr) from z) (by simp)
 refine⟨⟨e0.mod,S.kind,rfl,rfl,Nat.le_refl _,fun y z c h1 h2=>?_,fun y hy=>?_,fun y c _ h=>?_,fun _=>hd,Around.frames_deeper e0.frames,.inr ⟨rfl,rfl⟩,fun b z=>absurd z (noA b),e0.bs,e0.bsz,fun b _ _=>noA b,fun b z=>absurd z (noA b),e0.funs,e0.frf⟩,
  rfl,e0.bare,Un.kept hk,⟨_,x.toInCall.ns,fun i y v h1 h2 h3=>?_⟩,fun y c h=>⟨_,x.cell y c h⟩,e0.hok.fresh (Nat.le_refl _),fun y c h=>?_,fun p hp=>absurd (show p∈([]:List (Addr×Obj)) from hp) (by simp),e0.hok.kept hk,?_⟩
 ·
  exact name_of_addr x.apart (PySem.mem_of_lookup h1) (PySem.mem_of_lookup h2)
 ·
  have hy:scope.names.lookup y=some .cell∨scope.names.lookup y=some .free:=hy
  rcases hy with hy | hy
  ·
   exact cell_has hy
  ·
   exact absurd rfl (S.nofree _ (PySem.mem_of_lookup hy))
 ·
  exact Nat.le_of_lt (x.above y c (PySem.mem_of_lookup h))
 ·
  have hi:i<vs.length:=by
   unfold start at h2
   by_cases hi:i<vs.length
   ·
    exact hi
   ·
    rw[List.getElem?_append_right (by simpa using hi)] at h2
    rw[List.getElem?_replicate] at h2
    split at h2<;>cases h2
  have ha:vs[i]?=some v:=by
   unfold start at h2
   rw[List.getElem?_append_left (by simpa using hi),List.getElem?_map] at h2
   cases e:vs[i]? with
   | none=>rw[e] at h2;cases h2
   | some a=>rw[e] at h2;cases h2;rfl
  obtain⟨u,hu,rv⟩:=r.get ha
  have hp:ps[i]?=some y:=by
   rw[←S.pre,List.getElem?_take_of_lt (by omega)];exact h1
  have ndP:ps.Nodup:=by rw[←S.pre];exact S.nd.sublist (List.take_sublist _ _)
  refine⟨u,rv,?_⟩
  rcases S.par y (List.mem_of_getElem? hp) with k | k
  ·
   exact .inl ⟨k,bindL_get ndP hp hu k⟩
  ·
   obtain⟨c,e⟩:=cell_has (n:=s.heap.objs.size+1) k
   refine .inr ⟨.inl k,c,e,?_⟩
   have q:=x.cell y c e
   rw[bindC_get ndP hp hu (by show scope.names.lookup y≠_;rw[k];decide)] at q
   exact q
 ·
  exact e0.hok.fresh (Nat.le_of_lt (x.above y c (PySem.mem_of_lookup h)))
 ·
  unfold start
  show _=N.length
  rw[List.length_append,List.length_map,List.length_replicate]
  omega
theorem fn_of {CX:CXT}{P:Program}{w:World}{K:PySem.W.Frag}{mg:Str→Option Value}{base:Heap}{k:Nat}{f:Addr}{name qual:Str}{params:Arguments}{body:List Stmt}{scope:Scope}{dV kV doc pm cdv ct oc:Value}{an od:Option Addr}
  {osl:Array (Option Value)}{N ps:List Str}{sp:Sp}(lk:K.lookup f=some ⟨oc,od,.func (PySem.W.fnOf name qual params body scope dV kV doc pm an cdv ct),osl⟩)(hcd:PySem.W.codeIn K cdv qual=true)(S:Aq N ps scope)
  (len:∀vs H Q E,sp vs H Q E→vs.length=ps.length)
  (hbody:∀(A:Around) (outer:List Env) (s:Shared) (H:Hp) (vs:List V) (Q:VK) (E:XK),AM k (A.deeper (envOfC qual scope s.heap.objs.size f cdv))→sp vs H Q E→
   ∃t,PSs (cxOf CX P w K mg base N qual scope f cdv A outer s H E) body t∧t {nx:=fun _ H'=>Q .non H',rt:=Q} (start N vs) H):
  Ah P w K mg base CX (k+1) f (PySem.W.fnOf name qual params body scope dV kV doc pm an cdv ct) ps sp:=by
 refine⟨len,fun A outer s H args us vs Q E hr e0 hb r hsp=>?_⟩
 have hl:=len _ _ _ _ hsp
 have KX:K.In s.heap:=e0.mod.kin.keeps fun b o e=>(e0.bs b o e).1
 have lim:s.heap.NoLimit:=e0.mod.nolimit.keeps fun b o e=>(e0.bs b o e).1
 have hkind:∀y∈ps.zip us,scope.names.lookup y.1=some .local∨(scope.names.lookup y.1=some .cell∧((cellsFrom (s.heap.objs.size+1) scope.names []).lookup y.1).isSome=true):=fun ⟨n,v⟩ hy=>by
  rcases S.par n (List.of_mem_zip hy).1 with q | q
  ·
   exact .inl q
  ·
   exact .inr ⟨q,PySem.W.cellsFrom_some _ _ _ (.inl q)⟩
 refine codeAny_call_function hr.depth (KX _ _ lk) rfl S.co S.gen rfl (PySem.W.codeRec_of KX hcd) (hb _ _ _ _ ?_)
 refine wpAny_newFunctionEnv_cells S.kind hkind fun env he s1 x=>?_
 subst he
 refine⟨lim.keeps x.toInCall.keep,codeAny_func ?_⟩
 obtain⟨t,ht,hq⟩:=hbody A outer s H vs Q E (hr.deeper _) hsp
 have I:Inv (cxOf CX P w K mg base N qual scope f cdv A outer s H E) [] (start N vs) H s1:=inv_start S hr.hd e0 hl r x
 refine wpAny_mono (ht [] s1 (start N vs) H _ I hq) (fun fl s' hs=>?_) fun e s' hs=>hs
 have fin:∀{σ':St} {H':Hp} {v:V} {u:Value},Inv (cxOf CX P w K mg base N qual scope f cdv A outer s H E) [] σ' H' s'→AW v u→Q v H'→CE outer P w H s Q u s':=
  fun {σ' H' v u} J rv q=>⟨v,H',J.os,J.bare,J.base,J.hok,rv,q⟩
 cases fl with
 |
  ret u=>
  obtain⟨v,σ',H',J,rv,q⟩:=hs
  exact fin J rv q
 |
  next=>
  obtain⟨σ',H',J,q⟩:=hs
  exact fin (v:=V.non) (u:=Value.none) J rfl q
 |
  brk=>
  obtain⟨_,_,_,q⟩:=hs
  exact False.elim q
 |
  cont=>
  obtain⟨_,_,_,q⟩:=hs
  exact False.elim q
end L2
namespace L2
open PySem PySem.Spec PyProof.Rows
section
variable {X:Cx}{x:Str}{p pos:Pos}{e:Expr}{es:List Expr}{t:TA}{id T:String}{r:List V→Hp→VK→Prop}
def tCB (r:List V→Hp→VK→Prop)(t:TA):TE:=fun σ H Q=>t σ H fun vs H1=>r vs H1 Q
theorem Az (hc:CallR X (.builtin id) r)(hg:Gl X x)(hm:X.mg x=none)(hv:bootBuiltins x=some (.builtin id))(ha:PA X (e::es) t)(hn:x≠"__name__":=by decide)(hdb:(x==("__debug__":Str))=false:=by decide)
  (he:starEach (e::es) X.env=(false,eval e X.env)::starEach es X.env:=by rfl)(hpl:(backTo pos (starEach es X.env)).any (·.1)=false:=by rfl):PE X (.Call (.Name x p) (e::es) [] pos) (tCB r t):=by
 intro pins s σ H Q I h
 refine wpAny_Call_Name_kw (ld_blt I hg hm hv ?_ hn hdb)
 exact PyProof.Rows.callWith_builtin1 (thn (ha pos pins s σ H _ I h) fun us s1 ⟨vs,H1,I1,r1,q1⟩=>hc pins s1 σ H1 vs us Q I1 r1 q1) he hpl
theorem A2 (hc:CallR X (.type T) r)(hg:Gl X x)(hm:X.mg x=none)(hv:bootBuiltins x=some (.type T))(ha:PA X (e::es) t)(hn:x≠"__name__":=by decide)(hdb:(x==("__debug__":Str))=false:=by decide)
  (he:starEach (e::es) X.env=(false,eval e X.env)::starEach es X.env:=by rfl)(hpl:(backTo pos (starEach es X.env)).any (·.1)=false:=by rfl):PE X (.Call (.Name x p) (e::es) [] pos) (tCB r t):=by
 intro pins s σ H Q I h
 refine wpAny_Call_Name_kw (ld_blt I hg hm hv ?_ hn hdb)
 exact PyProof.Rows.callWith_type1 (thn (ha pos pins s σ H _ I h) fun us s1 ⟨vs,H1,I1,r1,q1⟩=>hc pins s1 σ H1 vs us Q I1 r1 q1) he hpl
end
end L2
namespace HT
open PySem PyProof.Rows
section
open PySem.SeqAt
open PySem.AutoSeq1 (wpAny_loadPart')
open PySem.MeetsSeq PySem.MeetsSeq2 PySem.MeetsSeq3
end
section
variable {prog:Program}{w:World}{A:Around}{E:Value→Shared→Prop}{s:Shared}
theorem cat_tup {t b:Addr}{vs ws:List Value}{Q:Value→Shared→Prop}(ht:IsTup s.heap t vs.toArray)(hb:IsTup s.heap b ws.toArray)(hv:vs≠[])
  (h1:ws=[]→Q (.ref t) s)(h2:ws≠[]→Q (.ref s.heap.objs.size) {s with heap:=s.heap.push {cls:=.type "tuple",data:=.seq (vs++ws).toArray}})
  (hsz:vs.length+ws.length≤sizeLine):wpAny (model prog w) A (binaryOp .Add (.ref t) (.ref b)) Q E s:=by
 obtain⟨⟨cls,dd,data,sl⟩,ho,hc,n,hd⟩:=id ht
 obtain⟨⟨cls2,dd2,data2,sl2⟩,ho2,hc2,n2,hd2⟩:=id hb
 simp only at hc hd hc2 hd2
 subst hc hd hc2 hd2
 have e:vs.toArray++ws.toArray=(vs++ws).toArray:=by simp
 by_cases hw:ws=[]
 ·
  exact concat_meets ⟨_,ho,rfl⟩ ⟨_,ho2,rfl⟩ noFill_tuple_add seq_tuple_add PySem.F.slot_tuple_add PySem.F.entry_tuple_add (PySem.F.args_tuple_add_2 _ _)
   (tuple_addW1 t b vs.toArray ws.toArray n n2 dd dd2 sl sl2 (by simpa using hv) (by simp[hw])) ⟨ho,ho2,h1 hw⟩
 ·
  refine concat_meets ⟨_,ho,rfl⟩ ⟨_,ho2,rfl⟩ noFill_tuple_add seq_tuple_add PySem.F.slot_tuple_add PySem.F.entry_tuple_add (PySem.F.args_tuple_add_2 _ _)
   (tuple_addW2 t b vs.toArray ws.toArray n n2 dd dd2 sl sl2 (by simpa using hv) (by simpa using hw) (by rw[List.size_toArray,List.size_toArray];exact hsz)) ⟨ho,ho2,?_⟩
  rw[e]
  exact h2 hw
def sIx (n d:Nat):Option Int→Nat
 | none=>d
 | some v=>if v<0 then (v+(n:Int)).toNat else min v.toNat n
theorem sIx_nat (n d k:Nat):sIx n d (some (k:Int))=min k n:=by
 show (if (k:Int)<0 then ((k:Int)+(n:Int)).toNat else min (k:Int).toNat n)=min k n
 rw[if_neg (by omega),Int.toNat_natCast]
end
end HT
namespace L2
open PySem PySem.Spec PyProof.Rows
abbrev TO:=St→Hp→(Option Int→Hp→Prop)→Prop
def PO (X:Cx)(e:Option Expr)(t:TO):Prop:=
 ∀(pins:List (Addr×Obj)) (s:Shared) (σ:St) (H:Hp) (Q:Option Int→Hp→Prop),Inv X pins σ H s→t σ H Q→
  wpAny (model X.prog X.w) X.A (evalPart e X.env) (fun u s'=>∃o H',Inv X pins σ H' s'∧IsPart u o∧Q o H') X.xe s
def tNoPart:TO:=fun _ H Q=>Q none H
def tPart (t:TE):TO:=fun σ H Q=>t σ H fun x H1=>∃i,x=.int i∧Q (some i) H1
section
variable {X:Cx}{e:Expr}{te:TE}{lo hi:Option Expr}{tl th:TO}{pos p2:Pos}
theorem po_none:PO X none tNoPart:=by
 intro pins s σ H Q I h
 rw[evalPart_none]
 exact wpAny_pure ⟨none,H,I,.none,h⟩
theorem po_some (h:PE X e te):PO X (some e) (tPart te):=by
 intro pins s σ H Q I hw
 rw[evalPart_some]
 refine thn (h pins s σ H _ I hw) fun u s1 ⟨x,H1,I1,r1,q1⟩=>?_
 obtain⟨i,rfl,q⟩:=q1
 obtain⟨t,rfl⟩:=r1
 exact⟨some i,H1,I1,.int i t,q⟩
def SlR (X:Cx)(r:V→Option Int→Option Int→Hp→VK→Prop):Prop:=
 ∀(pins:List (Addr×Obj)) (s:Shared) (σ:St) (H:Hp) (x:V) (v vl vu:Value) (lo hi:Option Int) (sl:Addr) (Q:VK),Inv X pins σ H s→AW x v→s.heap.IsSliceOf sl vl vu .none→IsPart vl lo→IsPart vu hi→r x lo hi H Q→
  ∃T id,typeLookup (.type T) "__getitem__"=pure (some (.builtin id))∧s.TypeIs v T∧wpAny (model X.prog X.w) X.A (getItem v (.ref sl)) (EP X pins σ Q) X.xe s
def tSl (r:V→Option Int→Option Int→Hp→VK→Prop)(te:TE)(tl th:TO):TE:=fun σ H Q=>te σ H fun x H1=>tl σ H1 fun l H2=>th σ H2 fun u H3=>r x l u H3 Q
theorem pe_slice {r:V→Option Int→Option Int→Hp→VK→Prop}(hr:SlR X r)(he:PE X e te)(hl:PO X lo tl)(hu:PO X hi th):PE X (.Subscript e (.Slice lo hi none p2) pos) (tSl r te tl th):=by
 intro pins s σ H Q I h
 refine Subscript_ (thn (he pins s σ H _ I h) fun v s1 ⟨x,H1,I1,r1,q1⟩=>?_)
 refine wpAny_Slice (thn (hl pins s1 σ H1 _ I1 q1) fun vl s2 ⟨l,H2,I2,pl,q2⟩=>thn (hu pins s2 σ H2 _ I2 q2) fun vu s3 ⟨u,H3,I3,pu,q3⟩=>?_)
 rw[evalPart_none]
 refine wpAny_pure ?_
 have I4:Inv X pins σ H3 {s3 with heap:=s3.heap.push {cls:=.type "slice",data:=.fields #[vl,vu,.none]}}:=I3.kept (t':=s3.toks) fun b ob q=>Heap.get?_push_of_some _ q
 obtain⟨T,id,hT,ht,hg⟩:=hr pins {s3 with heap:=s3.heap.push {cls:=.type "slice",data:=.fields #[vl,vu,.none]}} σ H3 x v vl vu l u s3.heap.objs.size Q I4 r1 (Heap.IsSliceOf.new ..) pl pu q3
 show wpAny (model X.prog X.w) X.A (subscriptTail e (.Slice lo hi none p2) v (.ref s3.heap.objs.size)) (EP X pins σ Q) X.xe {s3 with heap:=s3.heap.push {cls:=.type "slice",data:=.fields #[vl,vu,.none]}}
 exact tail_any (ops:=[.ref s3.heap.objs.size,v]) ht hT hg (by with_unfolding_all rfl)
def cutV (xs:List V)(lo hi:Option Int):List V:=(xs.drop (HT.sIx xs.length 0 lo)).take (HT.sIx xs.length xs.length hi-HT.sIx xs.length 0 lo)
theorem cutV_length (xs:List V)(lo hi:Option Int):(cutV xs lo hi).length≤xs.length:=by
 unfold cutV
 rw[List.length_take,List.length_drop]
 omega
def rCatT (K:PySem.W.Frag):R2:=fun x y H Q=>∃a b xs ys,x=.ref a∧y=.ref b∧SqT K H a xs∧SqT K H b ys∧xs≠[]∧xs.length+ys.length≤sizeLine∧
 (ys=[]→Q (.ref a) H)∧(ys≠[]→∀p,H p=none→Q (.ref p) (upd H p (.tup (xs++ys))))
theorem AG.nil_iff {xs:List V}{us:List Value}(r:AG xs us):us=[]↔xs=[]:=by
 cases r with
 | nil=>simp
 | cons _ _=>simp
theorem op_catT:OpR X (binaryOp .Add) (rCatT X.K):=by
 intro pins s σ H x y v u Q I rx ry h
 obtain⟨a,b,xs,ys,rfl,rfl,ha,hb,hx,hz,q1,q2⟩:=h
 cases rx
 cases ry
 obtain⟨its,r1,p1,_⟩:=I.tuple ha
 obtain⟨its2,r2,p2,_⟩:=I.tuple hb
 refine HT.cat_tup p1 p2 (fun z=>hx (r1.nil_iff.mp z)) (fun z=>⟨.ref a,H,I,rfl,q1 (r2.nil_iff.mp z)⟩) (fun z=>?_) (by rw[←r1.length,←r2.length];exact hz)
 refine⟨.ref s.heap.objs.size,_,I.laid (t':=s.toks) (o:=.tup (xs++ys)) (fun b ob q=>Heap.get?_push_of_some _ q) (Nat.le_refl _) ?_,rfl,q2 (fun w=>z (r2.nil_iff.mpr w)) _ (I.hok.fresh (Nat.le_refl _))⟩
 exact⟨by rw[List.length_append];exact hz,_,r1.append r2,IsTup.new _ _,fun o e=>by rw[Heap.get?_push_size _ rfl] at e;cases e;rfl⟩
end
end L2
namespace L2
open PySem PySem.Spec PyProof.Rows
def ixN (n:Nat)(i:Int):Option Nat:=if 0≤i then (if i<n then some i.toNat else none) else if -(n:Int)≤i then some (i+n).toNat else none
def atI {α:Type}(xs:List α)(i:Int):Option α:=(ixN xs.length i).bind fun j=>xs[j]?
theorem ixN_seq {n:Nat}{i:Int}{j:Nat}(h:ixN n i=some j):seqIndex? i n=some j∧j<n∧-(n:Int)≤i∧i<n:=by
 unfold ixN at h
 by_cases h0:0≤i
 ·
  rw[if_pos h0] at h
  by_cases h1:i<n
  ·
   rw[if_pos h1] at h
   have e:i.toNat=j:=Option.some.inj h
   exact⟨by rw[seqIndex_of h0 h1,e],by omega,by omega,h1⟩
  ·
   rw[if_neg h1] at h;cases h
 ·
  rw[if_neg h0] at h
  by_cases h1:-(n:Int)≤i
  ·
   rw[if_pos h1] at h
   have e:(i+n).toNat=j:=Option.some.inj h
   exact⟨by rw[seqIndex_neg (by omega) h1,e],by omega,h1,by omega⟩
  ·
   rw[if_neg h1] at h;cases h
theorem atI_get {α:Type}{xs:List α}{i:Int}{v:α}(h:atI xs i=some v):∃j,seqIndex? i xs.length=some j∧xs[j]?=some v∧j<xs.length∧-(xs.length:Int)≤i∧i<xs.length:=by
 unfold atI at h
 cases e:ixN xs.length i with
 | none=>rw[e] at h;cases h
 |
  some j=>
  rw[e] at h
  obtain⟨h1,h2,h3,h4⟩:=ixN_seq e
  exact⟨j,h1,h,h2,h3,h4⟩
theorem atI_nat {α:Type}{xs:List α}{j:Nat}{v:α}(h:xs[j]?=some v):atI xs (j:Int)=some v:=by
 have hj:j<xs.length:=(List.getElem?_eq_some_iff.mp h).1
 have e:ixN xs.length (j:Int)=some j:=by
  unfold ixN
  rw[if_pos (by omega),if_pos (by omega)];simp
 unfold atI;rw[e];exact h
theorem atI_last {α:Type}(xs:List α)(v:α):atI (xs++[v]) (-1)=some v:=by
 have hl:(xs++[v]).length=xs.length+1:=by simp
 have e:ixN (xs++[v]).length (-1)=some xs.length:=by
  unfold ixN
  rw[hl,if_neg (by decide),if_pos (by omega)]
  congr 1
  omega
 unfold atI
 rw[e]
 show (xs++[v])[xs.length]?=some v
 simp
def PlainIx (b:Expr):Prop:=∀o i,subscripted b false o i=operate [o,i] (getItem o i)
def IxR (X:Cx)(r:R2):Prop:=
 ∀(value slice:Expr) (pins:List (Addr×Obj)) (s:Shared) (σ:St) (H:Hp) (x y:V) (v u:Value) (Q:VK),Inv X pins σ H s→AW x v→AW y u→r x y H Q→
  subscripted slice false v u=operate [v,u] (getItem v u)→wpAny (model X.prog X.w) X.A (subscriptTail value slice v u) (EP X pins σ Q) X.xe s
def MtR (X:Cx)(id:String)(r:V→List V→Hp→VK→Prop):Prop:=
 ∀(pins:List (Addr×Obj)) (s:Shared) (σ:St) (H:Hp) (x:V) (xs:List V) (v:Value) (us:List Value) (Q:VK),Inv X pins σ H s→AW x v→AG xs us→r x xs H Q→
  wpAny (model X.prog X.w) X.A (call (.builtin id) (v::us)) (EP X pins σ Q) X.xe s
section
variable {X:Cx}{a b:Expr}{ta tb:TE}{pos:Pos}
theorem IxR.or {r r':R2}(h:IxR X r)(h':IxR X r'):IxR X (fun x y H Q=>r x y H Q∨r' x y H Q):=by
 intro value slice pins s σ H x y v u Q I rx ry q hs
 rcases q with q | q
 ·
  exact h value slice pins s σ H x y v u Q I rx ry q hs
 ·
  exact h' value slice pins s σ H x y v u Q I rx ry q hs
theorem AK {r:R2}(hr:IxR X r)(ha:PE X a ta)(hb:PE X b tb)(hs:PlainIx b):PE X (.Subscript a b pos) (tOp r ta tb):=by
 intro pins s σ H Q I h
 exact Subscript_ (binT ha hb I h fun v u s2 x y H2 I2 rx ry q=>hr a b pins s2 σ H2 x y v u Q I2 rx ry q (hs _ _))
def rIxL (K:PySem.W.Frag):R2:=fun x y H Q=>∃p xs i v,x=.ref p∧y=.int i∧SqL K H p xs∧atI xs i=some v∧Q v H
def rIxT (K:PySem.W.Frag):R2:=fun x y H Q=>∃p xs i v,x=.ref p∧y=.int i∧SqT K H p xs∧atI xs i=some v∧Q v H
def rIxS:R2:=fun x y H Q=>∃z i c,x=.str z∧y=.int i∧z.length≤sizeLine∧atI z.cps.toList i=some c∧Q (.str ⟨#[c]⟩) H
theorem AI:IxR X (rIxL X.K):=by
 intro value slice pins s σ H x y v u Q I rx ry h hs
 obtain⟨p,xs,i,z,rfl,rfl,hq,he,q⟩:=h
 cases rx
 obtain⟨t,rfl⟩:=ry
 obtain⟨its,r,pl,hz⟩:=I.list hq
 obtain⟨j,h1,h2,h3,h4,h5⟩:=atI_get he
 obtain⟨w,ew,rw'⟩:=r.get h2
 have hl:=r.length
 have hn:=line63
 have fin:EP X pins σ Q w s:=⟨z,H,I,rw',q⟩
 by_cases h0:0≤i
 ·
  have hj:i.toNat=j:=by
   rw[seqIndex_of h0 h5] at h1
   exact Option.some.inj h1
  exact item_listR pl.isList h0 (by omega) (by rw[hj];simpa using ew) fin hs
 ·
  have hj:(i+(its.toArray.size:Int)).toNat=j:=by
   rw[seqIndex_neg (by omega) h4] at h1
   rw[List.size_toArray,←hl]
   exact Option.some.inj h1
  exact subscriptTail_builtinR (x:=w) pl.isList.typeIs slot_list_getitem.lookup
   (wpAny_getItem_list_neg (Q:=fun r s'=>r=w∧EP X pins σ Q r s') pl.isList (by omega) (by rw[List.size_toArray]<;>omega) (by omega) (by rw[hj];simpa using ew) ⟨rfl,fin⟩) hs
theorem ix_tup:IxR X (rIxT X.K):=by
 intro value slice pins s σ H x y v u Q I rx ry h hs
 obtain⟨p,xs,i,z,rfl,rfl,hq,he,q⟩:=h
 cases rx
 obtain⟨t,rfl⟩:=ry
 obtain⟨its,r,pl,hz⟩:=I.tuple hq
 obtain⟨j,h1,h2,h3,h4,h5⟩:=atI_get he
 obtain⟨w,ew,rw'⟩:=r.get h2
 have hl:=r.length
 have hn:=line63
 have fin:EP X pins σ Q w s:=⟨z,H,I,rw',q⟩
 exact subscriptTail_builtinR (x:=w) pl.typeIs slot_tuple_getitem.lookup
  (getItem_tuple (j:=j) (Q:=fun r s'=>r=w∧EP X pins σ Q r s') pl (by omega) (by omega) (by rw[List.size_toArray,←hl];exact h1) (by simpa using ew) ⟨rfl,fin⟩) hs
theorem ix_str:IxR X rIxS:=by
 intro value slice pins s σ H x y v u Q I rx ry h hs
 obtain⟨z,i,c,rfl,rfl,hz,he,q⟩:=h
 obtain⟨t,rfl⟩:=rx
 obtain⟨t',rfl⟩:=ry
 obtain⟨j,h1,h2,h3,h4,h5⟩:=atI_get he
 have hl:z.cps.toList.length=z.length:=by simp[Str.length]
 rw[hl] at h1 h4 h5
 have hn:=line63
 exact tail_any (typeIs_str s z t) slot_str_getitem.lookup (getItem_str (c:=c) (by
  have e1:decide (i< -(2^63:Int))=false:=decide_eq_false (by omega)
  have e2:decide (i≥2^63)=false:=decide_eq_false (by omega)
  rw[e1,e2,Bool.or_false]) (by rw[h1];simpa using h2) ⟨.str ⟨#[c]⟩,H,I.tok _,⟨_,rfl⟩,q⟩) hs
def rIx (K:PySem.W.Frag):R2:=fun x y H Q=>rIxL K x y H Q∨rIxT K x y H Q∨rIxS x y H Q
theorem ix_seq:IxR X (rIx X.K):=AI.or (ix_tup.or ix_str)
theorem mapSeq_set (its:List Value)(n j:Nat)(u:Value):Obj.mapSeq (·.setIfInBounds j u) {cls:=.type "list",data:=.seq its.toArray n}={cls:=.type "list",data:=.seq (its.set j u).toArray n}:=by
 simp[Obj.mapSeq]
theorem Inv.lst {pins:List (Addr×Obj)}{σ:St}{H:Hp}{s:Shared}{p:Addr}{xs:List V}(I:Inv X pins σ H s)(h:H p=some (.lst xs)):
  ∃(its:List Value) (n:Nat),AG xs its∧s.heap.get? p=some {cls:=.type "list",data:=.seq its.toArray n}∧xs.length≤sizeLine:=by
 obtain⟨z,its,n,r,e⟩:=I.hok p _ h
 exact⟨its,n,r,e,z⟩
theorem Inv.lstUpd {pins:List (Addr×Obj)}{σ:St}{H:Hp}{s:Shared}{p:Addr}{xs ys:List V}{its its':List Value}{n n':Nat}{f:Obj→Obj}(I:Inv X pins σ H s)(h:H p=some (.lst xs))
  (ho:s.heap.get? p=some {cls:=.type "list",data:=.seq its.toArray n})(hf:f {cls:=.type "list",data:=.seq its.toArray n}={cls:=.type "list",data:=.seq its'.toArray n'})(r:AG ys its')(hz:ys.length≤sizeLine)(t:Nat):
  Inv X pins σ (upd H p (.lst ys)) {s with heap:=s.heap.update p f,toks:=t}:=by
 have e:(s.heap.update p f).get? p=some {cls:=.type "list",data:=.seq its'.toArray n'}:=by
  rw[Heap.get?_update_self f ho (by rw[hf]<;>rfl),hf]
 refine I.write (x:=p) (e:=p) (by rw[h];trivial) (.inl rfl) (fun b u hb q=>(Heap.get?_update_other _ _ (Ne.symm hb)).trans q) ⟨_,e⟩ ?_
 exact⟨hz,its',n',r,e⟩
def rSetL:V→V→V→Hp→(Hp→Prop)→Prop:=fun o i v H Q=>∃p xs k j,o=.ref p∧i=.int k∧H p=some (.lst xs)∧ixN xs.length k=some j∧Q (upd H p (.lst (xs.set j v)))
theorem set_list:PSet X rSetL:=by
 intro pins s σ H o i v ov iv u Q I ro ri rv h
 obtain⟨p,xs,k,j,rfl,rfl,hp,hj,q⟩:=h
 cases ro
 obtain⟨t,rfl⟩:=ri
 obtain⟨its,n,r,ho,hz⟩:=I.lst hp
 obtain⟨h1,h2,h3,h4⟩:=ixN_seq hj
 have hl:=r.length
 have hn:=line63
 have I':Inv X pins σ (upd H p (.lst (xs.set j v))) {s with heap:=s.heap.update p (Obj.mapSeq (·.setIfInBounds j u))}:=
  I.lstUpd hp ho (mapSeq_set its n j u) (r.set rv j) (by rw[List.length_set];exact hz) s.toks
 by_cases h0:0≤k
 ·
  have hk:k.toNat=j:=by
   rw[seqIndex_of h0 h4] at h1
   exact Option.some.inj h1
  exact PySem.W.ki_setAt ho h0 (by omega) (by rw[List.size_toArray,←hl];exact h4) (by rw[hk];exact⟨_,I',q⟩)
 ·
  have hk:(k+(its.toArray.size:Int)).toNat=j:=by
   rw[seqIndex_neg (by omega) h3] at h1
   rw[List.size_toArray,←hl]
   exact Option.some.inj h1
  exact PySem.W.ki_setBack ho (by omega) (by rw[List.size_toArray,←hl];exact h3) (by omega) (by rw[hk];exact⟨_,I',q⟩)
theorem slice_bounds (lo hi:Option Int)(n:Nat):(sliceBounds lo hi none n).1=((HT.sIx n 0 lo:Nat):Int)∧(sliceBounds lo hi none n).2.1=((HT.sIx n n hi:Nat):Int)∧(sliceBounds lo hi none n).2.2=1:=by
 refine⟨?_,?_,rfl⟩
 ·
  cases lo with
  | none=>simp[sliceBounds,HT.sIx]
  |
   some i=>
   simp only[sliceBounds,HT.sIx,Option.getD_none,show (1:Int)>0 by decide,if_true]
   by_cases h:i<0
   ·
    simp only[h,if_true]<;>omega
   ·
    simp only[h,if_false]<;>omega
 ·
  cases hi with
  | none=>simp[sliceBounds,HT.sIx]
  |
   some i=>
   simp only[sliceBounds,HT.sIx,Option.getD_none,show (1:Int)>0 by decide,if_true]
   by_cases h:i<0
   ·
    simp only[h,if_true]<;>omega
   ·
    simp only[h,if_false]<;>omega
theorem slicePick_cut (its:List Value)(lo hi:Option Int):slicePick its.toArray lo hi none=((its.drop (HT.sIx its.length 0 lo)).take (HT.sIx its.length its.length hi-HT.sIx its.length 0 lo)).toArray:=by
 obtain⟨h1,h2,h3⟩:=slice_bounds lo hi its.toArray.size
 unfold slicePick
 rw[h1,h2,h3]
 simp only[sliceRange_one,pick_run,List.size_toArray]<;>rfl
def rSlL (K:PySem.W.Frag):V→Option Int→Option Int→Hp→VK→Prop:=fun x lo hi H Q=>∃a xs,x=.ref a∧SqL K H a xs∧∀p,H p=none→Q (.ref p) (upd H p (.lst (cutV xs lo hi)))
theorem sl_list:SlR X (rSlL X.K):=by
 intro pins s σ H x v vl vu lo hi sl Q I rx hs pl pu h
 obtain⟨a,xs,rfl,hx,q⟩:=h
 cases rx
 obtain⟨its,r,ht,hz⟩:=I.list hx
 have hlen:=r.length
 refine⟨"list",_,slot_list_getitem.lookup,ht.isList.typeIs,?_⟩
 refine wpAny_getItem_list_slice ht.isList hs pl pu .none (by simp) ?_ (by rw[List.size_toArray]<;>omega)
 rw[slicePick_cut,←hlen]
 refine⟨.ref s.heap.objs.size,_,I.laid (t':=s.toks) (o:=.lst (cutV xs lo hi)) (fun b ob q=>Heap.get?_push_of_some _ q) (Nat.le_refl _) ?_,rfl,q _ (I.hok.fresh (Nat.le_refl _))⟩
 exact⟨Nat.le_trans (cutV_length xs lo hi) hz,_,0,(r.drop (HT.sIx xs.length 0 lo)).take (HT.sIx xs.length xs.length hi-HT.sIx xs.length 0 lo),Heap.get?_push_size _ rfl⟩
def flatV:V→Bool
 | .non=>true
 | .bl _=>true
 | .int _=>true
 | .str _=>true
 | _=>false
def eqV:V→V→Bool
 | .non,.non=>true
 | .bl a,.bl b=>a==b
 | .bl a,.int b=>(if a then 1 else 0)==b
 | .int a,.bl b=>a==(if b then 1 else 0)
 | .int a,.int b=>a==b
 | .str a,.str b=>a==b
 | _,_=>false
theorem eqAt_V {A:Around}{s:Shared}{y x:V}{u v:Value}(ry:AW y u)(rx:AW x v)(fy:flatV y=true)(fx:flatV x=true):SeqAt.EqAt A s u v (eqV y x):=by
 cases y with
 |
  non=>
  cases ry
  cases x with
  | non=>cases rx;exact SeqAt.EqAt.same _
  | bl b=>cases rx;exact SeqAt.EqAt.none_bool b
  | int b=>obtain⟨t,rfl⟩:=rx;exact SeqAt.EqAt.none_int b t
  | str b=>obtain⟨t,rfl⟩:=rx;exact SeqAt.EqAt.none_str b t
  | _=>exact absurd (show false=true from fx) Bool.false_ne_true
 |
  bl a=>
  cases ry
  cases x with
  | non=>cases rx;exact SeqAt.EqAt.bool_none a
  | bl b=>cases rx;exact SeqAt.EqAt.bool_bool a b
  | int b=>obtain⟨t,rfl⟩:=rx;exact SeqAt.EqAt.bool_int a b t
  | str b=>obtain⟨t,rfl⟩:=rx;exact SeqAt.EqAt.bool_str a b t
  | _=>exact absurd (show false=true from fx) Bool.false_ne_true
 |
  int a=>
  obtain⟨t',rfl⟩:=ry
  cases x with
  | non=>cases rx;exact SeqAt.EqAt.int_none a t'
  | bl b=>cases rx;exact SeqAt.EqAt.int_bool a t' b
  | int b=>obtain⟨t,rfl⟩:=rx;exact SeqAt.EqAt.int_int a t' b t
  | str b=>obtain⟨t,rfl⟩:=rx;exact SeqAt.EqAt.int_str a t' b t
  | _=>exact absurd (show false=true from fx) Bool.false_ne_true
 |
  str a=>
  obtain⟨t',rfl⟩:=ry
  cases x with
  | non=>cases rx;exact SeqAt.EqAt.str_none a t'
  | bl b=>cases rx;exact SeqAt.EqAt.str_bool a t' b
  | int b=>obtain⟨t,rfl⟩:=rx;exact SeqAt.EqAt.str_int a t' b t
  | str b=>obtain⟨t,rfl⟩:=rx;exact SeqAt.EqAt.str_str a t' b t
  | _=>exact absurd (show false=true from fx) Bool.false_ne_true
 | _=>exact absurd (show false=true from fy) Bool.false_ne_true
def eqU (x:V)(u:Value):Bool:=match u with
 | .none=>eqV .non x
 | .bool b=>eqV (.bl b) x
 | .int i _=>eqV (.int i) x
 | .str z _=>eqV (.str z) x
 | _=>false
theorem eqU_of {x y:V}{u:Value}(r:AW y u)(f:flatV y=true):eqU x u=eqV y x:=by
 cases y with
 | non=>cases r;rfl
 | bl b=>cases r;rfl
 | int i=>obtain⟨t,rfl⟩:=r;rfl
 | str z=>obtain⟨t,rfl⟩:=r;rfl
 | _=>exact absurd (show false=true from f) Bool.false_ne_true
theorem any_eqU {x:V}:∀{xs:List V} {us:List Value},AG xs us→xs.all flatV=true→us.any (eqU x)=xs.any fun y=>eqV y x
 | _,_,.nil,_=>rfl
 |
  y::xs,u::us,.cons r t,f=>by
  rw[List.all_cons,Bool.and_eq_true] at f
  rw[List.any_cons,List.any_cons,eqU_of r f.1,any_eqU t f.2]
theorem mem_eqAt {A:Around}{s:Shared}{x:V}{v:Value}(rx:AW x v)(fx:flatV x=true):∀{xs:List V} {us:List Value},AG xs us→xs.all flatV=true→∀u∈us,SeqAt.EqAt A s u v (eqU x u)
 | _,_,.nil,_=>fun u hu=>by cases hu
 |
  y::xs,u::us,.cons r t,f=>fun u' hu=>by
  rw[List.all_cons,Bool.and_eq_true] at f
  rcases List.mem_cons.mp hu with rfl | hu
  ·
   rw[eqU_of r f.1];exact eqAt_V r rx f.1 fx
  ·
   exact mem_eqAt rx fx t f.2 u' hu
def inV (x:V)(xs:List V):Bool:=xs.any fun y=>eqV y x
def rIn (K:PySem.W.Frag)(neg:Bool):R2:=fun x y H Q=>∃p xs,y=.ref p∧(SqL K H p xs∨SqT K H p xs)∧flatV x=true∧xs.all flatV=true∧Q (.bl (if neg then !inV x xs else inV x xs)) H
theorem op_in_seq:OpR X (compareOp .In) (rIn X.K false):=by
 intro pins s σ H x y v u Q I rx ry h
 obtain⟨p,xs,rfl,hq,fx,fs,q⟩:=h
 cases ry
 rcases hq with hq | hq
 ·
  obtain⟨its,r,pl,hz⟩:=I.list hq
  refine SeqAt.in_listAt (eqU x) pl.isList (fun w hw=>mem_eqAt rx fx r fs w (by simpa using hw)) ⟨.bl _,H,I,rfl,?_⟩
  rw[show its.toArray.any (eqU x)=its.any (eqU x) by simp,any_eqU r fs]
  exact q
 ·
  obtain⟨its,r,pl,hz⟩:=I.tuple hq
  refine SeqAt.in_tupleAt (eqU x) pl (fun w hw=>mem_eqAt rx fx r fs w (by simpa using hw)) ⟨.bl _,H,I,rfl,?_⟩
  rw[show its.toArray.any (eqU x)=its.any (eqU x) by simp,any_eqU r fs]
  exact q
theorem op_notIn_seq:OpR X (compareOp .NotIn) (rIn X.K true):=by
 intro pins s σ H x y v u Q I rx ry h
 obtain⟨p,xs,rfl,hq,fx,fs,q⟩:=h
 cases ry
 rcases hq with hq | hq
 ·
  obtain⟨its,r,pl,hz⟩:=I.list hq
  refine SeqAt.notIn_listAt (eqU x) pl.isList (fun w hw=>mem_eqAt rx fx r fs w (by simpa using hw)) ⟨.bl _,H,I,rfl,?_⟩
  rw[show its.toArray.any (eqU x)=its.any (eqU x) by simp,any_eqU r fs]
  exact q
 ·
  obtain⟨its,r,pl,hz⟩:=I.tuple hq
  refine SeqAt.notIn_tupleAt (eqU x) pl (fun w hw=>mem_eqAt rx fx r fs w (by simpa using hw)) ⟨.bl _,H,I,rfl,?_⟩
  rw[show its.toArray.any (eqU x)=its.any (eqU x) by simp,any_eqU r fs]
  exact q
theorem At:CallR X (.builtin "len") (fun xs H Q=>∃p ys,xs=[.ref p]∧(SqL X.K H p ys∨SqT X.K H p ys)∧Q (.int ys.length) H):=by
 intro pins s σ H xs us Q I r h
 obtain⟨p,ys,rfl,hq,q⟩:=h
 obtain⟨u,rfl,rx⟩:=vals1 r
 cases rx
 have hn:=line63
 rcases hq with hq | hq
 ·
  obtain⟨its,r',pl,hz⟩:=I.list hq
  have hlen:=r'.length
  exact Calls.call_len_list pl.isList (by simp only[List.size_toArray]<;>omega) ⟨.int ys.length,H,I.tok _,⟨s.toks+1,by rw[List.size_toArray,hlen]⟩,q⟩
 ·
  obtain⟨its,r',pl,hz⟩:=I.tuple hq
  have hlen:=r'.length
  exact len_tuple pl (by simp only[List.size_toArray]<;>omega) ⟨.int ys.length,H,I.tok _,⟨s.toks+1,by rw[List.size_toArray,hlen]⟩,q⟩
theorem AX:CallR X (.type "list") (fun xs H Q=>∃p ys,xs=[.ref p]∧(SqL X.K H p ys∨SqT X.K H p ys)∧∀l,H l=none→Q (.ref l) (upd H l (.lst ys))):=by
 intro pins s σ H xs us Q I r h
 obtain⟨p,ys,rfl,hq,q⟩:=h
 obtain⟨u,rfl,rx⟩:=vals1 r
 cases rx
 have fin:∀(its:List Value),AG ys its→ys.length≤sizeLine→∀(h':Heap) (c':Nat),(∀b o',s.heap.get? b=some o'→h'.get? b=some o')→
   h'.get? s.heap.objs.size=some {cls:=.type "list",dict:=none,data:=.seq its.toArray c',slots:=#[]}→EP X pins σ Q (.ref s.heap.objs.size) {s with heap:=h'}:=fun its r' hz h' c' kp e=>
  ⟨.ref s.heap.objs.size,_,I.laid (t':=s.toks) kp (Nat.le_refl _) (show ObjOk X.prog X.w _ h' _ (.lst ys) from ⟨hz,its,c',r',e⟩),rfl,q _ (I.hok.fresh (Nat.le_refl _))⟩
 rcases hq with hq | hq
 ·
  obtain⟨its,r',pl,hz⟩:=I.list hq
  have hlen:=r'.length
  obtain⟨o,ho,hc,n,hd⟩:=pl.isList
  exact call_list_seq p (.inl rfl) ho hc hd (fun h' c' kp e=>fin its r' hz h' c' kp e) (by simp only[List.size_toArray]<;>omega)
 ·
  obtain⟨its,r',pl,hz⟩:=I.tuple hq
  have hlen:=r'.length
  obtain⟨o,ho,hc,n,hd⟩:=pl
  exact call_list_seq p (.inr rfl) ho hc hd (fun h' c' kp e=>fin its r' hz h' c' kp e) (by simp only[List.size_toArray]<;>omega)
theorem call_tuple_of:CallR X (.type "tuple") (fun xs H Q=>∃p ys,xs=[.ref p]∧((SqL X.K H p ys∧∀l,H l=none→Q (.ref l) (upd H l (.tup ys)))∨(SqT X.K H p ys∧Q (.ref p) H))):=by
 intro pins s σ H xs us Q I r h
 obtain⟨p,ys,rfl,h⟩:=h
 obtain⟨u,rfl,rx⟩:=vals1 r
 cases rx
 rcases h with ⟨hq,q⟩ | ⟨hq,q⟩
 ·
  obtain⟨its,r',pl,hz⟩:=I.list hq
  have hlen:=r'.length
  refine call_tuple_list pl.isList (fun h' kp=>?_) (by simp only[List.size_toArray]<;>omega)
  have I1:Inv X pins σ H {s with heap:=h'}:=I.kept (t':=s.toks) kp
  have I2:Inv X pins σ (upd H h'.objs.size (.tup ys)) {s with heap:=h'.push {cls:=.type "tuple",data:=.seq its.toArray}}:=
   I1.laid (t':=s.toks) (fun b o e=>Heap.get?_push_of_some _ e) (Nat.le_refl _) (show ObjOk X.prog X.w _ _ _ (.tup ys) from ⟨hz,its,r',IsTup.new _ _,fun o e=>by rw[Heap.get?_push_size _ rfl] at e;cases e;rfl⟩)
  exact⟨.ref h'.objs.size,_,I2,rfl,q _ (I1.hok.fresh (Nat.le_refl _))⟩
 ·
  obtain⟨its,r',pl,hz⟩:=I.tuple hq
  exact call_tuple_same pl ⟨.ref p,H,I,rfl,q⟩
def tyV (K:PySem.W.Frag)(T:String)(x:V)(H:Hp):Prop:=match x with
 | .str _=>T="str"
 | .int _=>T="int"
 | .ref p=>(T="list"∧∃xs,SqL K H p xs)∨(T="tuple"∧((∃o,K.lookup p=some o∧o.cls=.type "tuple"∧o.dict=none)∨∃xs,H p=some (.tup xs)))∨
   (T="dict"∧((∃kvs,H p=some (.dK kvs))∨∃kvs,H p=some (.dT kvs)))∨(T="set"∧∃S n,H p=some (.set S n))
 | _=>False
theorem tyV_is {pins:List (Addr×Obj)}{σ:St}{H:Hp}{s:Shared}{T:String}{x:V}{v:Value}(I:Inv X pins σ H s)(r:AW x v)(ty:tyV X.K T x H):
  s.TypeIs v T∧∀a,v=.ref a→∃ob,s.heap.get? a=some ob∧ob.dict=none:=by
 cases x with
 |
  str z=>
  obtain⟨t,rfl⟩:=r
  cases (show T="str" from ty)
  exact⟨typeIs_str s z t,fun _ e=>nomatch e⟩
 |
  int i=>
  obtain⟨t,rfl⟩:=r
  cases (show T="int" from ty)
  exact⟨typeIs_int s i t,fun _ e=>nomatch e⟩
 |
  ref p=>
  cases r
  rcases ty with ⟨rfl,xs,hq⟩ | ⟨rfl,⟨o,hk,hc,hd⟩ | ⟨ys,hy⟩⟩ | ⟨rfl,hk⟩ | ⟨rfl,S,n,hk⟩
  ·
   obtain⟨its,_,pl,_⟩:=I.list hq
   refine⟨pl.isList.typeIs,fun a e=>?_⟩
   cases e
   obtain⟨o,n,e,c,hd,_⟩:=pl
   exact⟨o,e,hd⟩
  ·
   refine⟨⟨o,I.kIn p o hk,hc⟩,fun a e=>?_⟩
   cases e
   exact⟨o,I.kIn _ o hk,hd⟩
  ·
   obtain⟨_,_,_,⟨o,e,c,_⟩,dn⟩:=I.hok p _ hy
   refine⟨⟨o,e,c⟩,fun a e2=>?_⟩
   cases e2
   exact⟨o,e,dn o e⟩
  ·
   have z:∃o,s.heap.get? p=some o∧o.ExactDict:=by
    rcases hk with ⟨kvs,hk⟩ | ⟨kvs,hk⟩
    ·
     obtain⟨_,_,_,_,o,_,_,e,ex,_⟩:=I.hok p _ hk
     exact⟨o,e,ex⟩
    ·
     obtain⟨_,_,_,_,o,_,_,e,ex,_⟩:=I.hok p _ hk
     exact⟨o,e,ex⟩
   obtain⟨o,e,ex⟩:=z
   refine⟨⟨o,e,ex.1⟩,fun a e2=>?_⟩
   cases e2
   exact⟨o,e,ex.2.1⟩
  ·
   obtain⟨o,_,_,_,e,ex,_⟩:=I.hok p _ hk
   refine⟨⟨o,e,ex.1⟩,fun a e2=>?_⟩
   cases e2
   exact⟨o,e,ex.2.1⟩
 | _=>exact False.elim ty
def tBM (K:PySem.W.Frag)(T:String)(r:V→List V→Hp→VK→Prop)(to:TE)(t:TA):TE:=fun σ H Q=>to σ H fun x H1=>tyV K T x H1∧t σ H1 fun xs H2=>r x xs H2 Q
variable {o e:Expr}{es:List Expr}{to:TE}{t:TA}{name:Str}{apos cpos:Pos}{T id:String}{r:V→List V→Hp→VK→Prop}
theorem pe_bm (pa:PlainAttrs T)(slot:Slot T name id)(hty:typeOf (.builtin id)=pure (.type "method_descriptor"))(hm:MtR X id r)(ho:PE X o to)(ha:PA X (e::es) t)
  (hbase:attributeBase o name X.env (eval o X.env)=eval o X.env:=by rfl)
  (hfew:((backTo cpos (starEach (e::es) X.env)).all (fun x=>!x.1)&&(backToKw cpos (keywordEach [] X.env)).all (fun x=>x.1.isSome)
   &&decide ((e::es).length+([]:List Keyword).length+(if ([]:List Keyword).isEmpty then 0 else 1)<30))=true:=by rfl)
  (hline:(apos.endLine==cpos.line)=true:=by rfl)(hs:starEach (e::es) X.env=(false,eval e X.env)::starEach es X.env:=by rfl)(hplain:(backTo cpos (starEach es X.env)).any (·.1)=false:=by rfl):
  PE X (.Call (.Attribute o name apos) (e::es) [] cpos) (tBM X.K T r to t):=by
 intro pins s σ H Q I h
 refine wpAny_Call_method_late hbase hfew hline rfl (thn (ho pins s σ H _ I h) fun v s1 ⟨x,H1,I1,r1,ty,q1⟩=>?_)
 obtain⟨h1,h2⟩:=tyV_is I1 r1 ty
 refine⟨T,id,pa,slot,hty,h1,h2,?_⟩
 have hA:=ha cpos pins s1 σ H1 _ I1 q1
 rw[hs] at hA ⊢
 refine Calls.callWith_builtin (by show (false||(backTo cpos (starEach es X.env)).any (·.1))=false;rw[hplain]<;>rfl) (Calls.evalArgs_plain ?_)
 exact thn hA fun us s2 ⟨vs,H2,I2,r2,q2⟩=>hm pins s2 σ H2 x vs v us Q I2 r1 r2 q2
end
end L2
namespace L2
open PySem PySem.Spec PyProof.Rows
def MtM (X:Cx)(id:String)(r:V→List V→Hp→VK→Prop):Prop:=
 ∀(pins:List (Addr×Obj)) (s:Shared) (σ:St) (H:Hp) (x:V) (xs:List V) (v:Value) (us:List Value) (Q:VK),Inv X pins σ H s→AW x v→AG xs us→r x xs H Q→
  wpAny (model X.prog X.w) X.A (call (.builtin id) (v::us)) (EP X pins σ Q) X.xe s
theorem AG.one:∀{x:V} {us:List Value},AG [x] us→∃u,us=[u]∧AW x u
 | _,_,.cons r .nil=>⟨_,rfl,r⟩
theorem AG.rep {xs:List V}{us:List Value}(h:AG xs us):∀k:Nat,AG (List.replicate k xs).flatten (List.replicate k us).flatten
 | 0=>.nil
 |
  k+1=>by
  rw[List.replicate_succ,List.replicate_succ,List.flatten_cons,List.flatten_cons]
  exact AG.append h (AG.rep h k)
theorem foldl_rep (its:List Value):∀(k:Nat) (acc:List Value),
  List.foldl (fun x1 x2=>x1++x2) acc.toArray (List.replicate k its.toArray)=(acc++(List.replicate k its).flatten).toArray
 | 0,acc=>by simp
 |
  k+1,acc=>by
  have e:acc.toArray++its.toArray=(acc++its).toArray:=by simp
  have e2:(acc++its)++(List.replicate k its).flatten=acc++(List.replicate (k+1) its).flatten:=by
   rw[List.replicate_succ,List.flatten_cons,List.append_assoc]
  rw[←e2,←foldl_rep its k (acc++its),←e,List.replicate_succ,List.foldl_cons]
section
variable {X:Cx}{pins:List (Addr×Obj)}{σ:St}{H:Hp}{s:Shared}{l b:Addr}{xs ys zs:List V}
theorem Inv.lset {its its':List Value}{n:Nat}{f:Array Value→Array Value}{t':Nat}(I:Inv X pins σ H s)(hH:H l=some (.lst xs))
  (e:s.heap.get? l=some {cls:=.type "list",data:=.seq its.toArray n})(hf:f its.toArray=its'.toArray)(hv:AG ys its')(hz:ys.length≤sizeLine):
  Inv X pins σ (upd H l (.lst ys)) {s with heap:=s.heap.update l (Obj.mapSeq f),toks:=t'}:=by
 have q:=PySem.IsL.update e f
 rw[hf] at q
 refine I.write (x:=l) (e:=l) (by rw[hH];exact trivial) (.inl rfl) (fun b' u hb hu=>(Heap.get?_update_other s.heap (Obj.mapSeq f) (Ne.symm hb)).trans hu) ⟨_,q⟩ ?_
 exact⟨hz,its',_,hv,q⟩
theorem Inv.lnew {its:List Value}{t':Nat}(I:Inv X pins σ H s)(hv:AG ys its)(hz:ys.length≤sizeLine):
  Inv X pins σ (upd H s.heap.objs.size (.lst ys)) {s with heap:=s.heap.push {cls:=.type "list",data:=.seq its.toArray},toks:=t'}:=
 I.laid (fun _ _ q=>Heap.get?_push_of_some _ q) (Nat.le_refl _) ⟨hz,its,0,hv,Heap.get?_push_size _ rfl⟩
theorem Inv.fresh (I:Inv X pins σ H s):H s.heap.objs.size=none:=I.hok.fresh (Nat.le_refl _)
theorem Inv.lstM (I:Inv X pins σ H s)(hH:H l=some (.lst xs)):xs.length≤sizeLine∧∃(its:List Value) (n:Nat),AG xs its∧xs.length=its.length∧s.heap.get? l=some {cls:=.type "list",data:=.seq its.toArray n}:=by
 obtain⟨z,its,n,r,e⟩:=I.hok l _ hH
 exact⟨z,its,n,r,r.length,e⟩
theorem notLongL {n:Nat}(h:n≤sizeLine):Builtin.List.listTooLong n=false:=by
 unfold Builtin.List.listTooLong
 exact decide_eq_false (by omega)
end
section
variable {X:Cx}
def rAppend:V→List V→Hp→VK→Prop:=fun x vs H Q=>∃l xs y,x=.ref l∧vs=[y]∧H l=some (.lst xs)∧xs.length<sizeLine∧Q .non (upd H l (.lst (xs++[y])))
theorem mt_append:MtM X "list.append" rAppend:=by
 intro pins s σ H x vs v us Q I rx rv h
 obtain⟨l,xs,y,rfl,rfl,hH,hz,q⟩:=h
 cases rx
 obtain⟨u,rfl,ru⟩:=rv.one
 obtain⟨z,its,n,r,hl,e⟩:=I.lstM hH
 refine call_meets F.slot_list_append ⟨_,e,rfl⟩ F.entry_list_append (F.args_list_append_2 _ _) (PySem.list_append l its.toArray n u (by rw[List.size_toArray];omega)) ⟨e,?_⟩
 refine⟨.non,_,I.lset (its':=its++[u]) hH e (by simp) (r.append (.cons ru .nil)) ?_,rfl,q⟩
 rw[List.length_append,List.length_singleton]
 omega
def rExtend:V→List V→Hp→VK→Prop:=fun x vs H Q=>∃l b xs zs,x=.ref l∧vs=[.ref b]∧H l=some (.lst xs)∧H b=some (.lst zs)∧xs.length+zs.length≤sizeLine∧Q .non (upd H l (.lst (xs++zs)))
theorem mt_extend:MtM X "list.extend" rExtend:=by
 intro pins s σ H x vs v us Q I rx rv h
 obtain⟨l,b,xs,zs,rfl,rfl,hH,hB,hz,q⟩:=h
 cases rx
 obtain⟨u,rfl,ru⟩:=rv.one
 cases ru
 obtain⟨z,its,n,r,hl,e⟩:=I.lstM hH
 obtain⟨z2,its2,n2,r2,hl2,e2⟩:=I.lstM hB
 have hsz:its.toArray.size+its2.toArray.size≤sizeLine:=by rw[List.size_toArray,List.size_toArray];omega
 have hlong:¬(!its.toArray.isEmpty&&Builtin.List.listTooLong (its.toArray.size+its2.toArray.size))=true:=by
  rw[notLongL hsz,Bool.and_false]
  exact Bool.false_ne_true
 refine call_meets F.slot_list_extend ⟨_,e,rfl⟩ F.entry_list_extend (F.args_list_extend_2 _ _)
  (AutoSeq1.list_extend_list_list_0 l its.toArray n b its2.toArray n2 hlong (by rw[List.size_toArray];omega) (by omega)) ⟨e,e2,?_⟩
 refine⟨.non,_,I.lset (its':=its++its2) hH e (by simp) (r.append r2) ?_,rfl,q⟩
 rw[List.length_append]
 omega
def rCat:R2:=fun x y H Q=>∃l b xs zs,x=.ref l∧y=.ref b∧H l=some (.lst xs)∧H b=some (.lst zs)∧xs.length+zs.length≤sizeLine∧∀p,H p=none→Q (.ref p) (upd H p (.lst (xs++zs)))
theorem op_cat:OpR X (binaryOp .Add) rCat:=by
 intro pins s σ H x y v u Q I rx ry h
 obtain⟨l,b,xs,zs,rfl,rfl,hH,hB,hz,q⟩:=h
 cases rx
 cases ry
 obtain⟨z,its,n,r,hl,e⟩:=I.lstM hH
 obtain⟨z2,its2,n2,r2,hl2,e2⟩:=I.lstM hB
 refine PySem.P.add_list e e2 ?_ (by rw[List.size_toArray,List.size_toArray];omega)
 have ea:its.toArray++its2.toArray=(its++its2).toArray:=by simp
 rw[ea]
 exact⟨.ref _,_,I.lnew (t':=s.toks) (r.append r2) (by rw[List.length_append];omega),rfl,q _ I.fresh⟩
def rRep:R2:=fun x y H Q=>∃l k xs,x=.ref l∧y=.int k∧H l=some (.lst xs)∧-(2^63)≤k∧k<2^63∧xs.length*k.toNat≤sizeLine∧
 ∀p,H p=none→Q (.ref p) (upd H p (.lst (List.replicate k.toNat xs).flatten))
theorem len_rep {α:Type}(xs:List α)(k:Nat):(List.replicate k xs).flatten.length=k*xs.length:=by
 induction k with
 | zero=>simp
 | succ k ih=>rw[List.replicate_succ,List.flatten_cons,List.length_append,ih,Nat.succ_mul,Nat.add_comm]
theorem op_rep:OpR X (binaryOp .Mult) rRep:=by
 intro pins s σ H x y v u Q I rx ry h
 obtain⟨l,k,xs,rfl,rfl,hH,h1,h2,hz,q⟩:=h
 cases rx
 obtain⟨t,rfl⟩:=ry
 obtain⟨z,its,n,r,hl,e⟩:=I.lstM hH
 have hlen:its.toArray.size*k.toNat≤sizeLine:=by rw[List.size_toArray,←hl];exact hz
 have hcap:¬its.toArray.size*k.toNat>(2^63-1)/8:=by
  have:(sizeLine:Nat)≤(2^63-1)/8:=by decide
  omega
 have hfit:¬(!Builtin.List.listFitsIndex k)=true:=by
  rw[fitsIndex_both h1 h2]
  exact Bool.false_ne_true
 have hlong:¬Builtin.List.listTooLong (its.toArray.size*k.toNat)=true:=by
  rw[notLongL hlen]
  exact Bool.false_ne_true
 have hnew:List.foldl (fun x1 x2=>x1++x2) #[] (List.replicate (if its.toArray.isEmpty=true then 0 else k.toNat) its.toArray)=(List.replicate k.toNat its).flatten.toArray:=by
  have f0:∀m:Nat,List.foldl (fun x1 x2=>x1++x2) #[] (List.replicate m its.toArray)=(List.replicate m its).flatten.toArray:=fun m=>by
   have:=foldl_rep its m []
   rw[List.nil_append] at this
   exact this
  rw[f0]
  cases its with
  | nil=>simp
  | cons a r'=>rw[if_neg (by simp)]
 refine wpAny_binaryOp_repeat_ref (T:="list") (U:="int") (by decide) ⟨_,e,rfl⟩ (fun s'=>typeIs_int s' k t) noFill_list_mul F.fills_int_mul F.slot_int_rmul repeat_list F.slot_int_index.lookup
  (call_meets F.slot_int_rmul (typeIs_int s k t) F.entry_int_rmul (F.args_int_rmul_2 _ _) (int___rmul___int_list k t l its.toArray n)
   ⟨e,rfl,⟨_,e,rfl⟩,call_meets F.slot_list_mul ⟨_,e,rfl⟩ F.entry_list_mul (F.args_list_mul_2 _ _) (AutoListH.list___mul___list_int_3 l its.toArray n k t hfit hcap hlong) ⟨e,?_⟩⟩)
 rw[hnew]
 exact⟨.ref _,_,I.lnew (t':=s.toks) (r.rep k.toNat) (by rw[len_rep,Nat.mul_comm];exact hz),rfl,q _ I.fresh⟩
end
section
variable {prog:Program}{w:World}{A:Around}{E:Value→Shared→Prop}{s:Shared}
end
section
variable {X:Cx}
end
end L2
namespace L2
open PySem PySem.Spec PyProof.Rows
theorem AG.ints:∀{ns:List Int} {us:List Value},AG (ns.map V.int) us→IntsAre us ns
 |
  [],us,h=>by
  rw[List.map_nil] at h
  cases h
  exact IntsAre.nil
 |
  n::ns,us,h=>by
  rw[List.map_cons] at h
  cases h with
  |
   cons r t=>
   obtain⟨k,rfl⟩:=r
   exact IntsAre.cons n k (AG.ints t)
theorem AG.bls:∀{bs:List Bool} {us:List Value},AG (bs.map V.bl) us→us=bs.map Value.bool
 |
  [],us,h=>by
  rw[List.map_nil] at h
  cases h
  rfl
 |
  b::bs,us,h=>by
  rw[List.map_cons] at h
  cases h with
  |
   cons r t=>
   cases r
   rw[AG.bls t,List.map_cons]
theorem AG.ref1 {a:Addr}{us:List Value}(r:AG [V.ref a] us):us=[Value.ref a]:=by
 cases r with
 |
  cons r t=>
  cases t
  cases r
  rfl
section
variable {prog:Program}{w:World}{A:Around}{E:Value→Shared→Prop}{s:Shared}{l:Addr}{its:List Value}{ns:List Int}{Q:Value→Shared→Prop}
theorem sum_raw (hh:A.handled=none)(hl:s.heap.IsList l its.toArray)(hi:IntsAre its ns)
  (h:∀h' tk t',(∀b o,s.heap.get? b=some o→h'.get? b=some o)→Q (.int ns.sum t') {s with heap:=h',toks:=tk}):wpAny (model prog w) A (call (.builtin "sum") [.ref l]) Q E s:=by
 obtain⟨xs,e⟩:=hi.allInts.items
 have hn:numsOf (intItems xs).toList=ns:=by rw[←e];exact hi.numsOf
 rw[nums_intItems] at hn
 rw[e] at hl
 refine PySem.sum_intListG hh hl fun h' tk t' hk=>?_
 have:=h h' tk t' hk
 rw[preSum_eq,List.take_of_length_le (by simp),hn];exact this
theorem max_raw (hh:A.handled=none)(hl:s.heap.IsList l its.toArray)(hi:IntsAre its ns)(hne:0<ns.length)
  (h:∀h' tk M t',(∀b o,s.heap.get? b=some o→h'.get? b=some o)→M∈ns→(∀a,a∈ns→a≤M)→Q (.int M t') {s with heap:=h',toks:=tk}):wpAny (model prog w) A (call (.builtin "max") [.ref l]) Q E s:=by
 obtain⟨xs,e⟩:=hi.allInts.items
 have hn:numsOf (intItems xs).toList=ns:=by rw[←e];exact hi.numsOf
 rw[nums_intItems] at hn
 subst hn
 rw[e] at hl
 have hsz:0<xs.size:=by simpa using hne
 refine PySem.max_intList hh hl hsz fun v h' tk hv hk=>?_
 obtain⟨t,rfl⟩:=intItems_at hv
 obtain⟨h1,h2⟩:=argBest_gt (numAt xs) (xs.size-1)
 refine h h' tk _ t hk ?_ fun a ha=>?_
 ·
  rw[numAt_eq];exact PySem.getD_mem (by rw[List.length_map,Array.length_toList];omega)
 ·
  obtain⟨j,hj,rfl⟩:=mem_getD ha
  rw[List.length_map,Array.length_toList] at hj
  rw[←numAt_eq];exact h2 j (by omega)
theorem min_raw (hh:A.handled=none)(hl:s.heap.IsList l its.toArray)(hi:IntsAre its ns)(hne:0<ns.length)
  (h:∀h' tk M t',(∀b o,s.heap.get? b=some o→h'.get? b=some o)→M∈ns→(∀a,a∈ns→M≤a)→Q (.int M t') {s with heap:=h',toks:=tk}):wpAny (model prog w) A (call (.builtin "min") [.ref l]) Q E s:=by
 obtain⟨xs,e⟩:=hi.allInts.items
 have hn:numsOf (intItems xs).toList=ns:=by rw[←e];exact hi.numsOf
 rw[nums_intItems] at hn
 subst hn
 rw[e] at hl
 have hsz:0<xs.size:=by simpa using hne
 refine PySem.min_intList hh hl hsz fun v h' tk hv hk=>?_
 obtain⟨t,rfl⟩:=intItems_at hv
 obtain⟨h1,h2⟩:=argBest_lt (numAt xs) (xs.size-1)
 refine h h' tk _ t hk ?_ fun a ha=>?_
 ·
  rw[numAt_eq];exact PySem.getD_mem (by rw[List.length_map,Array.length_toList];omega)
 ·
  obtain⟨j,hj,rfl⟩:=mem_getD ha
  rw[List.length_map,Array.length_toList] at hj
  rw[←numAt_eq];exact h2 j (by omega)
end
section
variable {X:Cx}
def rSum (K:PySem.W.Frag):List V→Hp→VK→Prop:=fun vs H Q=>∃(a:Addr) (ns:List Int),vs=[V.ref a]∧SqL K H a (ns.map V.int)∧Q (.int ns.sum) H
def rMax (K:PySem.W.Frag):List V→Hp→VK→Prop:=fun vs H Q=>∃(a:Addr) (ns:List Int),vs=[V.ref a]∧SqL K H a (ns.map V.int)∧0<ns.length∧∀m,m∈ns→(∀y,y∈ns→y≤m)→Q (.int m) H
def rMin (K:PySem.W.Frag):List V→Hp→VK→Prop:=fun vs H Q=>∃(a:Addr) (ns:List Int),vs=[V.ref a]∧SqL K H a (ns.map V.int)∧0<ns.length∧∀m,m∈ns→(∀y,y∈ns→m≤y)→Q (.int m) H
theorem cr_sum (hc:X.calm=true):CallR X (.builtin "sum") (rSum X.K):=by
 intro pins s σ H vs us Q I r h
 obtain⟨a,ns,rfl,hs,q⟩:=h
 obtain⟨its,rv,hl,_⟩:=I.list hs
 rw[AG.ref1 r]
 exact sum_raw (I.ok.hd hc) hl.isList rv.ints fun h' tk t' hk=>⟨.int _,H,I.kept hk,⟨_,rfl⟩,q⟩
theorem cr_max (hc:X.calm=true):CallR X (.builtin "max") (rMax X.K):=by
 intro pins s σ H vs us Q I r h
 obtain⟨a,ns,rfl,hs,hne,q⟩:=h
 obtain⟨its,rv,hl,_⟩:=I.list hs
 rw[AG.ref1 r]
 exact max_raw (I.ok.hd hc) hl.isList rv.ints hne fun h' tk m t' hk h1 h2=>⟨.int _,H,I.kept hk,⟨_,rfl⟩,q m h1 h2⟩
theorem cr_min (hc:X.calm=true):CallR X (.builtin "min") (rMin X.K):=by
 intro pins s σ H vs us Q I r h
 obtain⟨a,ns,rfl,hs,hne,q⟩:=h
 obtain⟨its,rv,hl,_⟩:=I.list hs
 rw[AG.ref1 r]
 exact min_raw (I.ok.hd hc) hl.isList rv.ints hne fun h' tk m t' hk h1 h2=>⟨.int _,H,I.kept hk,⟨_,rfl⟩,q m h1 h2⟩
end
section
variable {X:Cx}
def rIndex (K:PySem.W.Frag):V→List V→Hp→VK→Prop:=fun x xs H Q=>∃(a:Addr) (ys:List V) (y:V) (j:Nat) (z:V),x=V.ref a∧xs=[y]∧SqL K H a ys∧flatV y=true∧ys.all flatV=true∧ys[j]?=some z∧eqV z y=true∧
 (∀(m:Nat) (z':V),m<j→ys[m]?=some z'→eqV z' y=false)∧Q (.int (j:Nat)) H
theorem flat_at {ys:List V}(f:ys.all flatV=true){j:Nat}{z:V}(h:ys[j]?=some z):flatV z=true:=List.all_eq_true.mp f z (List.mem_of_getElem? h)
theorem mt_index:MtR X "list.index" (rIndex X.K):=by
 intro pins s σ H x xs v us Q I rx rxs h
 obtain⟨a,ys,y,j,z,rfl,rfl,hs,fy,fys,hz,hzj,hno,q⟩:=h
 cases rx
 cases rxs with
 |
  cons ry rt=>
  rename_i uy ut
  cases rt
  obtain⟨its,rv,⟨⟨cls,dd,data,sl⟩,n,ho,hc,hdn,hd⟩,hlen⟩:=I.list hs
  simp only at hc hd
  subst hc hd
  obtain⟨u,hu,ru⟩:=rv.get hz
  obtain⟨hjl,hje⟩:=List.getElem?_eq_some_iff.mp hu
  have hvl:=rv.length
  have hj:j<its.toArray.size:=by simpa using hjl
  have hsl:=sizeLine_eq
  refine call_meets PySem.F.slot_list_index ⟨_,ho,rfl⟩ PySem.F.entry_list_index (PySem.F.args_list_index_2 _ _)
   (SeqAt.list_indexAt a its.toArray n dd sl uy (eqU y) j hj (by omega) ?_ ?_) ⟨ho,fun u' hu'=>mem_eqAt ry fy rv fys u' (by simpa using hu'),?_⟩
  ·
   have e1:its.toArray[j]=u:=by simpa using hje
   rw[e1,eqU_of ru (flat_at fys hz)]
   exact hzj
  ·
   intro m hm hmj
   have hml:m<its.length:=by simpa using hm
   have hmy:m<ys.length:=by omega
   have hy':ys[m]?=some ys[m]:=List.getElem?_eq_getElem hmy
   obtain⟨u2,hu2,ru2⟩:=rv.get hy'
   obtain⟨_,hme⟩:=List.getElem?_eq_some_iff.mp hu2
   have e1:its.toArray[m]=u2:=by simpa using hme
   rw[e1,eqU_of ru2 (flat_at fys hy')]
   exact hno m _ hmj hy'
  ·
   exact⟨.int (j:Nat),H,I.tok _,⟨_,rfl⟩,q⟩
end
section
variable {X:Cx}
end
theorem iter_any {prog:Program}{w:World}{A:Around}{E:Value→Shared→Prop}{s:Shared}{l:Addr}{items:Array Value}{Q:Value→Shared→Prop}(hl:s.heap.IsList l items)
  (h:∀s₂:Shared,s₂={s with heap:=s.heap.push {cls:=.type "list_iterator",data:=.fields #[.ref l,.int 0 0]}}→
   (s₂.heap.IsListIter s.heap.objs.size l 0∧s₂.heap.IsList l items)→l≠s.heap.objs.size→Q (.ref s.heap.objs.size) s₂):wpAny (model prog w) A (pyIter (.ref l)) Q E s:=by
 have hlt:l<s.heap.objs.size:=by obtain⟨_,e,_⟩:=hl;exact Heap.lt_size e
 exact wpAny_pyIter_list hl (h _ rfl ⟨⟨_,Heap.get?_push_size _ rfl,rfl,rfl⟩,hl.push _⟩ (Nat.ne_of_lt hlt))
theorem truth_bools {prog:Program}{w:World}{A:Around}{bs:List Bool}{its:List Value}(e:its=bs.map Value.bool):
  TruthOf prog w A (fun i v=>its.toArray[i]?=some v) (fun i=>bs.getD i false):=fun i v s Q E hv hq=>by
 have hv':its[i]?=some v:=by simpa using hv
 rw[e,List.getElem?_map] at hv'
 obtain⟨b,hb,rfl⟩:=Option.map_eq_some_iff.mp hv'
 have hg:bs.getD i false=b:=by rw[List.getD_eq_getElem?_getD,hb]<;>rfl
 have hq':Q (bs.getD i false) s:=hq
 rw[hg] at hq'
 exact wpAny_truthy_bool hq'
theorem all_range:∀bs:List Bool,(List.range bs.length).all (fun i=>bs.getD i false)=bs.all id
 | []=>rfl
 |
  b::bs=>by
  rw[List.length_cons,List.range_succ_eq_map,List.all_cons,List.all_map,List.all_cons,←all_range bs]
  all_goals rfl
section
variable {X:Cx}
def rAll (K:PySem.W.Frag):List V→Hp→VK→Prop:=fun vs H Q=>∃(a:Addr) (bs:List Bool),vs=[V.ref a]∧SqL K H a (bs.map V.bl)∧Q (.bl (bs.all id)) H
theorem cr_all (hc:X.calm=true):CallR X (.builtin "all") (rAll X.K):=by
 intro pins s σ H vs us Q I r h
 obtain⟨a,bs,rfl,hs,q⟩:=h
 obtain⟨its,rv,hl,_⟩:=I.list hs
 rw[AG.ref1 r]
 have hb:=rv.bls
 refine call_all_walk (iter_any hl.isList fun s₂ e2 st hne=>?_)
 subst e2
 refine⟨_,_,_,_,_,_,_,rfl,Walks.list (A:=X.A.in1) (I.ok.hd hc) _ a hne its.toArray,st,truth_bools hb,fun h' tk hk=>?_⟩
 refine⟨.bl _,H,I.kept fun b o eo=>hk b o (fun hmem=>?_) (Heap.get?_push_of_some _ eo),?_,q⟩
 ·
  rcases List.mem_cons.mp hmem with e1 | hmem
  ·
   exact absurd (e1▸Heap.lt_size eo) (Nat.lt_irrefl _)
  ·
   cases hmem
 ·
  show Value.bool _=Value.bool _
  rw[←all_range,hb,List.size_toArray,List.length_map]
end
mutual
inductive Dp (K:PySem.W.Frag)(H:Hp):V→PyData→Prop
 | non:Dp K H .non .none
 | bl (b:Bool):Dp K H (.bl b) (.bool b)
 | int (i:Int):Dp K H (.int i) (.int i)
 | str (x:Str):Dp K H (.str x) (.str x)
 | lst {a:Addr} {xs:List V} {ds:List PyData}:SqL K H a xs→DpAll K H xs ds→Dp K H (.ref a) (.list ds)
 | tup {a:Addr} {xs:List V} {ds:List PyData}:SqT K H a xs→DpAll K H xs ds→Dp K H (.ref a) (.tuple ds)
inductive DpAll (K:PySem.W.Frag)(H:Hp):List V→List PyData→Prop
 | nil:DpAll K H [] []
 | cons {v:V} {vs:List V} {d:PyData} {ds:List PyData}:Dp K H v d→DpAll K H vs ds→DpAll K H (v::vs) (d::ds)
end
section
variable {X:Cx}{pins:List (Addr×Obj)}{σ:St}{H:Hp}{s:Shared}
mutual
theorem Dp.reads (I:Inv X pins σ H s):∀(d:PyData) (v:V) (u:Value),Dp X.K H v d→AW v u→∃as,Reads s.heap u d as
 |
  .none,_,_,h,r=>by
  cases h
  cases r
  exact⟨_,Reads.none⟩
 |
  .bool b,_,_,h,r=>by
  cases h
  cases r
  exact⟨_,Reads.bool b⟩
 |
  .int i,_,_,h,r=>by
  cases h
  obtain⟨t,rfl⟩:=r
  exact⟨_,Reads.int i t⟩
 |
  .str x,_,_,h,r=>by
  cases h
  obtain⟨t,rfl⟩:=r
  exact⟨_,Reads.str x t⟩
 |
  .list ds,_,_,h,r=>by
  cases h with
  |
   lst hs ha=>
   cases r
   obtain⟨its,rv,⟨o,n,ho,hc,_,hd⟩,_⟩:=I.list hs
   obtain⟨as,hr⟩:=Dp.readsAll I ds _ its ha rv
   exact⟨_,Reads.list ho hc hd hr⟩
 |
  .tuple ds,_,_,h,r=>by
  cases h with
  |
   tup hs ha=>
   cases r
   obtain⟨its,rv,⟨o,ho,hc,n,hd⟩,_⟩:=I.tuple hs
   obtain⟨as,hr⟩:=Dp.readsAll I ds _ its ha rv
   exact⟨_,Reads.tuple ho hc hd hr⟩
 | .dict _,_,_,h,_=>by cases h
theorem Dp.readsAll (I:Inv X pins σ H s):∀(ds:List PyData) (vs:List V) (us:List Value),DpAll X.K H vs ds→AG vs us→∃as,ReadsAll s.heap us ds as
 |
  [],_,_,h,r=>by
  cases h
  cases r
  exact⟨_,ReadsAll.nil⟩
 |
  d::ds,_,_,h,r=>by
  cases h with
  |
   cons h1 h2=>
   cases r with
   |
    cons r1 r2=>
    obtain⟨as,q1⟩:=Dp.reads I d _ _ h1 r1
    obtain⟨bs,q2⟩:=Dp.readsAll I ds _ _ h2 r2
    exact⟨_,ReadsAll.cons q1 q2⟩
end
end
section
variable {X:Cx}
def rEqD (K:PySem.W.Frag):R2:=fun x y H Q=>∃d e,Dp K H x d∧Dp K H y e∧SeqAt.shaped d=true∧SeqAt.shaped e=true∧Q (.bl (PyData.eqv d e)) H
theorem op_eqD (hu:X.A.units+64<cLine):OpR X (compareOp .Eq) (rEqD X.K):=by
 intro pins s σ H x y v u Q I rx ry h
 obtain⟨d,e,hd,he,sd,se,q⟩:=h
 obtain⟨as,r1⟩:=Dp.reads I d x v hd rx
 obtain⟨bs,r2⟩:=Dp.reads I e y u he ry
 exact SeqAt.compareEq_shaped r1 r2 sd se hu ⟨.bl _,H,I,rfl,q⟩
end
end L2
namespace L2
open PySem PySem.Spec PyProof.Rows
abbrev CellAt (h:Heap)(c:Addr)(v:Option Value):Prop:=h.IsCell c v
def relS (scope sc:Scope):Scope:=
 {scope with names:=scope.names.map fun (n,k)=>if (k==.free&&sc.kind==.function&&sc.names.lookup n==some .cell) then (n,.cell) else (n,k)}
def A0 (cells:List (Str×Addr)):List (Str×NameKind)→List (Str×Addr)→List (Str×Addr)
 | [],acc=>acc
 | (n,k)::r,acc=>if k==.free then A0 cells r ((n,(cells.lookup n).getD 0)::acc) else A0 cells r acc
theorem closure_loop (env:Env)(f:Str×NameKind→List (Str×Addr)→Sem (ForInStep (List (Str×Addr))))
  (hf:∀n k c,f (n,k) c=if k==.free then (do let a←cellOf env n;pure (.yield ((n,a)::c))) else pure (.yield c)):
  ∀(names:List (Str×NameKind)) (acc:List (Str×Addr)),(∀y∈names,y.2=.free→∃c,env.cells.lookup y.1=some c)→forIn names acc f=pure (A0 env.cells names acc)
 | [],acc,_=>by rw[List.forIn_nil];rfl
 |
  (n,k)::r,acc,h=>by
  rw[List.forIn_cons,hf]
  have ih:=fun acc=>closure_loop env f hf r acc fun y hy=>h y (List.mem_cons_of_mem _ hy)
  unfold A0
  by_cases hk:(k==NameKind.free)=true
  ·
   rw[if_pos hk,if_pos hk]
   obtain⟨c,hc⟩:=h (n,k) List.mem_cons_self (by simpa using hk)
   have e:cellOf env n=pure c:=by unfold cellOf;rw[hc]
   rw[e]
   have e2:(env.cells.lookup n).getD 0=c:=by rw[hc];rfl
   rw[e2]
   exact ih _
  ·
   rw[if_neg hk,if_neg hk]
   exact ih _
theorem closure_ok {scope:Scope}{env:Env}(h:∀y∈scope.names,y.2=.free→∃c,env.cells.lookup y.1=some c):closureFor scope env=pure (A0 env.cells scope.names []):=by
 simp only[closureFor]
 rw[closure_loop env _ (fun n k c=>rfl) scope.names [] h]
 rfl
theorem mem_lookup {α:Type}:∀{l:List (Str×α)} {n:Str} {c:α},(n,c)∈l→∃c',l.lookup n=some c'
 |
  (k,v)::r,n,c,h=>by
  rw[List.lookup_cons]
  cases hb:n==k with
  | true=>exact⟨_,rfl⟩
  |
   false=>
   rcases List.mem_cons.mp h with e | h
   ·
    cases e;simp at hb
   ·
    exact mem_lookup h
theorem cloFrom_mem {cells:List (Str×Addr)}:∀{names:List (Str×NameKind)} {acc:List (Str×Addr)} {n:Str} {c:Addr},(n,c)∈A0 cells names acc→(n,c)∈acc∨((n,.free)∈names∧c=(cells.lookup n).getD 0)
 | [],_,_,_,h=>.inl h
 |
  (m,k)::r,acc,n,c,h=>by
  unfold A0 at h
  split at h
  ·
   rename_i hk
   have hk:k=.free:=by simpa using hk
   rcases cloFrom_mem h with h | ⟨h1,h2⟩
   ·
    rcases List.mem_cons.mp h with e | h
    ·
     cases e;exact .inr ⟨hk▸List.mem_cons_self,rfl⟩
    ·
     exact .inl h
   ·
    exact .inr ⟨List.mem_cons_of_mem _ h1,h2⟩
  ·
   rcases cloFrom_mem h with h | ⟨h1,h2⟩
   ·
    exact .inl h
   ·
    exact .inr ⟨List.mem_cons_of_mem _ h1,h2⟩
theorem cloFrom_acc {cells:List (Str×Addr)}:∀{names:List (Str×NameKind)} {acc:List (Str×Addr)} {p:Str×Addr},p∈acc→p∈A0 cells names acc
 | [],_,_,h=>h
 |
  (m,k)::r,acc,p,h=>by
  unfold A0
  split
  ·
   exact cloFrom_acc (List.mem_cons_of_mem _ h)
  ·
   exact cloFrom_acc h
theorem cloFrom_has {cells:List (Str×Addr)}:∀{names:List (Str×NameKind)} {acc:List (Str×Addr)} {n:Str},(n,.free)∈names→(n,(cells.lookup n).getD 0)∈A0 cells names acc
 |
  (m,k)::r,acc,n,h=>by
  unfold A0
  rcases List.mem_cons.mp h with e | h
  ·
   cases e
   exact cloFrom_acc List.mem_cons_self
  ·
   split
   ·
    exact cloFrom_has h
   ·
    exact cloFrom_has h
theorem cells_mem:∀{names:List (Str×NameKind)} {h:Heap} {acc:List (Str×Addr)} {x:Str} {c:Addr},(x,c)∈cellsFrom h.objs.size names acc→
  (x,c)∈acc∨((x,.cell)∈names∧h.objs.size≤c∧CellAt (pushCells h names) c none)
 | [],_,_,_,_,h=>.inl h
 |
  (n,k)::r,h,acc,x,c,hm=>by
  unfold cellsFrom at hm
  unfold pushCells
  split at hm
  ·
   rename_i hk
   rw[if_pos hk]
   have hk:k=.cell:=by simpa using hk
   rw[←Heap.size_push h {cls:=.type "cell",data:=.cell none}] at hm
   rcases cells_mem hm with hm | ⟨h1,h2,h3⟩
   ·
    rcases List.mem_cons.mp hm with e | hm
    ·
     cases e
     exact .inr ⟨hk▸List.mem_cons_self,Nat.le_refl _,_,pushCells_keeps r _ _ _ (Heap.get?_push_size _ rfl),rfl⟩
    ·
     exact .inl hm
   ·
    rw[Heap.size_push] at h2
    exact .inr ⟨List.mem_cons_of_mem _ h1,Nat.le_of_succ_le h2,h3⟩
  ·
   rename_i hk
   rw[if_neg hk]
   rcases cells_mem hm with hm | ⟨h1,h2,h3⟩
   ·
    exact .inl hm
   ·
    exact .inr ⟨List.mem_cons_of_mem _ h1,h2,h3⟩
theorem cells_acc:∀{names:List (Str×NameKind)} {n:Nat} {acc:List (Str×Addr)} {p:Str×Addr},p∈acc→p∈cellsFrom n names acc
 | [],_,_,_,h=>h
 |
  (m,k)::r,n,acc,p,h=>by
  unfold cellsFrom
  split
  ·
   exact cells_acc (List.mem_cons_of_mem _ h)
  ·
   exact cells_acc h
theorem cells_has:∀{names:List (Str×NameKind)} {n:Nat} {acc:List (Str×Addr)} {x:Str},(x,.cell)∈names→∃c,(x,c)∈cellsFrom n names acc
 |
  (m,k)::r,n,acc,x,h=>by
  unfold cellsFrom
  rcases List.mem_cons.mp h with e | h
  ·
   cases e
   exact⟨n,cells_acc List.mem_cons_self⟩
  ·
   split
   ·
    exact cells_has h
   ·
    exact cells_has h
theorem cells_inj:∀{names:List (Str×NameKind)} {h:Heap} {acc:List (Str×Addr)} {x y:Str} {c:Addr},(∀p∈acc,p.2<h.objs.size)→(∀x y c,(x,c)∈acc→(y,c)∈acc→x=y)→
  (x,c)∈cellsFrom h.objs.size names acc→(y,c)∈cellsFrom h.objs.size names acc→x=y
 | [],_,_,_,_,_,_,hi,h1,h2=>hi _ _ _ h1 h2
 |
  (n,k)::r,h,acc,x,y,c,hl,hi,h1,h2=>by
  unfold cellsFrom at h1 h2
  split at h1
  ·
   rename_i hk
   rw[if_pos hk] at h2
   rw[←Heap.size_push h {cls:=.type "cell",data:=.cell none}] at h1 h2
   refine cells_inj (h:=h.push _) (fun p hp=>?_) (fun x y c a b=>?_) h1 h2
   ·
    rw[Heap.size_push]
    rcases List.mem_cons.mp hp with rfl | hp
    ·
     exact Nat.lt_succ_self _
    ·
     exact Nat.lt_succ_of_lt (hl p hp)
   ·
    rcases List.mem_cons.mp a with e | a<;>rcases List.mem_cons.mp b with e' | b
    ·
     cases e;cases e';rfl
    ·
     cases e;exact absurd (hl _ b) (Nat.lt_irrefl _)
    ·
     cases e';exact absurd (hl _ a) (Nat.lt_irrefl _)
    ·
     exact hi _ _ _ a b
  ·
   rename_i hk
   rw[if_neg hk] at h2
   exact cells_inj hl hi h1 h2
theorem newEnv_comp {M:Model}{A:Around}{E:Value→Shared→Prop}{s:Shared}{scope:Scope}{globals:Addr}{closure:List (Str×Addr)}{qual:Str}{func:Option Addr}{code:Value}{around:Env}{builtins:Addr}{Q:Env→Shared→Prop}
  (h:Q (newEnv scope s.heap.objs.size globals (cellsFrom (s.heap.objs.size+1) scope.names closure) qual func code (some around) builtins)
   {s with heap:=pushCells (s.heap.push {cls:=.type "dict",data:=.dict #[]}) scope.names}):
  wpAny M A (newFunctionEnv scope globals closure [] qual func code (some around) builtins) Q E s:=by
 simp only[newFunctionEnv,Option.isSome_some,if_true]
 refine wpAny_bind (wpAny_alloc ?_)
 refine wpAny_bind (wpAny_layCells _ (fun n k c=>rfl) scope.names closure _ _ ?_)
 rw[show ({s with heap:=s.heap.push {cls:=.type "dict",data:=.dict #[]}}:Shared).heap.objs.size=s.heap.objs.size+1 from Heap.size_push ..]
 rw[List.forIn_nil]
 exact wpAny_bind (wpAny_pure (wpAny_pure h))
theorem lookup_relS {sc:Scope}:∀{names:List (Str×NameKind)} {x:Str} {k:NameKind},
  (names.map fun (n,k)=>if (k==NameKind.free&&sc.kind==.function&&sc.names.lookup n==some .cell) then (n,NameKind.cell) else (n,k)).lookup x=some k→
  ∃k',names.lookup x=some k'∧(k=k'∨(k'=.free∧k=.cell))
 | [],_,_,h=>by simp at h
 |
  (n,k₀)::r,x,k,h=>by
  have ih:=@lookup_relS sc r x k
  have h':List.lookup x ((if (k₀==NameKind.free&&sc.kind==.function&&sc.names.lookup n==some .cell)=true then (n,NameKind.cell) else (n,k₀))::(r.map _))=some k:=h
  cases hx:x==n with
  |
   true=>
   simp only[List.lookup_cons,hx]
   by_cases hc:(k₀==NameKind.free&&sc.kind==.function&&sc.names.lookup n==some .cell)=true
   ·
    rw[if_pos hc] at h'
    simp only[List.lookup_cons,hx] at h'
    cases h'
    simp only[Bool.and_eq_true,beq_iff_eq] at hc
    exact⟨k₀,rfl,.inr ⟨hc.1.1,rfl⟩⟩
   ·
    rw[if_neg hc] at h'
    simp only[List.lookup_cons,hx] at h'
    cases h'
    exact⟨_,rfl,.inl rfl⟩
  |
   false=>
   simp only[List.lookup_cons,hx]
   by_cases hc:(k₀==NameKind.free&&sc.kind==.function&&sc.names.lookup n==some .cell)=true
   ·
    rw[if_pos hc] at h'
    simp only[List.lookup_cons,hx] at h'
    exact ih h'
   ·
    rw[if_neg hc] at h'
    simp only[List.lookup_cons,hx] at h'
    exact ih h'
structure BlkOk (N:List Str)(sc scope:Scope)(own:List (Str×Nat)):Prop where
 kind:scope.kind=.function
 uniq:∀y∈scope.names,scope.names.lookup y.1=some y.2
 ix:∀p∈own,N[p.2]?=some p.1
 free:∀y∈scope.names,y.2=.free→sc.names.lookup y.1=some .cell∨sc.names.lookup y.1=some .free
 own:∀y∈scope.names,y.2=.local∨y.2=.cell→y.1∈own.map (·.1)∨y.1∉N
def wipe (σ:St):List Nat→St
 | []=>σ
 | v::vs=>(wipe σ vs).set v none
theorem wipe_length (σ:St):∀vs:List Nat,(wipe σ vs).length=σ.length
 | []=>rfl
 | v::vs=>by unfold wipe;rw[List.length_set,wipe_length σ vs]
theorem wipe_some {σ:St}{i:Nat}{x:V}:∀{vs:List Nat},(wipe σ vs)[i]?=some (some x)→σ[i]?=some (some x)∧i∉vs
 | [],h=>⟨h,by simp⟩
 |
  v::vs,h=>by
  unfold wipe at h
  by_cases hi:v=i
  ·
   subst hi
   by_cases hv:v<(wipe σ vs).length
   ·
    rw[List.getElem?_set_self hv] at h;cases h
   ·
    rw[List.getElem?_eq_none (by simpa using hv)] at h;cases h
  ·
   rw[List.getElem?_set_ne hi] at h
   obtain⟨h1,h2⟩:=wipe_some h
   exact⟨h1,by simp only[List.mem_cons,not_or];exact⟨fun e=>hi e.symm,h2⟩⟩
abbrev Cx.blk (X:Cx)(s:Shared)(H:Hp)(scope:Scope)(cenv:Env)(fp:List Addr):Cx:={X with s_0:=s,H_0:=H,env:=cenv,outer:=X.stack,ex:=fp,fn:=fun x=>scope.names.lookup x==some .cell,pn:=[],xe:=fun _ _=>False}
section
variable {X:Cx}{pins:List (Addr×Obj)}{σ:St}{H:Hp}{s:Shared}
theorem block_start {scope:Scope}{own:List (Str×Nat)}{fp:List Addr}(I:Inv X pins σ H s)(ok:BlkOk X.N X.env.scope scope own)(hN:X.N.Nodup)(hfp:∀b∈fp,FpOk X pins H b∧b<s.heap.objs.size):
  Inv (X.blk s H scope (compEnvC scope (cellsFrom (s.heap.objs.size+1) scope.names (A0 X.env.cells scope.names [])) s.heap.objs.size X.env) fp) [] (wipe σ (own.map (·.2))) H {s with heap:=pushCells (s.heap.push {cls:=.type "dict",data:=.dict #[]}) scope.names}:=by
 have hfree:∀y∈scope.names,y.2=.free→∃c,X.env.cells.lookup y.1=some c:=fun y hy e=>by
  rcases ok.free y hy e with k | k
  ·
   exact I.ok.has _ (.inl k)
  ·
   exact I.ok.has _ (.inr k)
 generalize hcenv:compEnvC scope (cellsFrom (s.heap.objs.size+1) scope.names (A0 X.env.cells scope.names [])) s.heap.objs.size X.env=cenv
 have kp:∀b o,s.heap.get? b=some o→(pushCells (s.heap.push {cls:=.type "dict",data:=.dict #[]}) scope.names).get? b=some o:=fun b o e=>pushCells_keeps _ _ _ _ (Heap.get?_push_of_some _ e)
 have hL:cenv.locals=s.heap.objs.size:=by rw[←hcenv];rfl
 have hcl:cenv.cells=cellsFrom (s.heap.objs.size+1) scope.names (A0 X.env.cells scope.names []):=by rw[←hcenv];rfl
 have hsc:cenv.scope=relS scope X.env.scope:=by rw[←hcenv];rfl
 rw[←Heap.size_push s.heap {cls:=.type "dict",data:=.dict #[]}] at hcl
 have cm:∀{y c},(y,c)∈A0 X.env.cells scope.names []→X.env.cells.lookup y=some c∧c<s.heap.objs.size:=fun {y c} hm=>by
  rcases cloFrom_mem hm with hm | ⟨h1,rfl⟩
  ·
   cases hm
  ·
   obtain⟨c,hc⟩:=hfree _ h1 rfl
   rw[hc]
   obtain⟨w,z⟩:=I.cell _ _ hc
   exact⟨rfl,z.lt⟩
 have mem:∀{y c},cenv.cells.lookup y=some c→(X.env.cells.lookup y=some c∧c<s.heap.objs.size)∨(s.heap.objs.size+1≤c∧CellAt (pushCells (s.heap.push {cls:=.type "dict",data:=.dict #[]}) scope.names) c none):=fun {y c} e=>by
  rw[hcl] at e
  rcases cells_mem (PySem.mem_of_lookup e) with hm | ⟨_,h2,h3⟩
  ·
   exact .inl (cm hm)
  ·
   rw[Heap.size_push] at h2;exact .inr ⟨h2,h3⟩
 have look:∀{y},scope.names.lookup y=some .free→∃c,cenv.cells.lookup y=some c∧X.env.cells.lookup y=some c:=fun {y} hl=>by
  have hy:(y,NameKind.free)∈scope.names:=PySem.mem_of_lookup hl
  obtain⟨c',e'⟩:=mem_lookup (cells_acc (names:=scope.names) (n:=(s.heap.push {cls:=.type "dict",data:=.dict #[]}).objs.size) (cloFrom_has (cells:=X.env.cells) (acc:=[]) hy))
  rw[←hcl] at e'
  refine⟨c',e',?_⟩
  rw[hcl] at e'
  rcases cells_mem (PySem.mem_of_lookup e') with hm | ⟨h1,_,_⟩
  ·
   exact (cm hm).1
  ·
   have:=ok.uniq _ h1
   rw[hl] at this;cases this
 have okB:(X.blk s H scope cenv fp).Ok:=by
  refine⟨I.ok.mod,by show cenv.scope.kind=_;rw[hsc];exact ok.kind,by show cenv.globals=_;rw[←hcenv];exact I.ok.glob,by show cenv.builtins=_;rw[←hcenv];exact I.ok.blt,by show s.heap.objs.size≤cenv.locals;rw[hL];exact Nat.le_refl _,
   fun y z c e1 e2=>?_,fun y hy=>?_,fun y c z e=>?_,I.ok.hd,I.ok.frames,.inl rfl,fun b hb=>⟨?_,fun y c e z=>?_⟩,I.bs,Nat.le_trans I.ok.bsz I.sz,fun b o e hb=>?_,fun b hb z=>?_,I.stack,I.stkFree⟩
  ·
   have e1:cenv.cells.lookup y=some c:=e1
   have e2:cenv.cells.lookup z=some c:=e2
   rw[hcl] at e1 e2
   refine cells_inj (fun p hp=>?_) (fun y z c a b=>I.ok.inj y z c (cm a).1 (cm b).1) (PySem.mem_of_lookup e1) (PySem.mem_of_lookup e2)
   rw[Heap.size_push]
   exact Nat.lt_succ_of_lt (cm (y:=p.1) (c:=p.2) hp).2
  ·
   show ∃c,cenv.cells.lookup y=some c
   have key:∀k,cenv.kindOf y=some k→(k=.cell∨k=.free)→∃c,cenv.cells.lookup y=some c:=fun k hk hk'=>by
    unfold Env.kindOf at hk
    rw[hsc] at hk
    obtain⟨k',e,r⟩:=lookup_relS hk
    have:k'=.cell∨k'=.free:=by
     rcases r with rfl | ⟨rfl,_⟩
     ·
      exact hk'
     ·
      exact .inr rfl
    rcases this with rfl | rfl
    ·
     obtain⟨c,hm⟩:=cells_has (n:=(s.heap.push {cls:=.type "dict",data:=.dict #[]}).objs.size) (acc:=A0 X.env.cells scope.names []) (PySem.mem_of_lookup e)
     obtain⟨c',e'⟩:=mem_lookup hm
     exact⟨c',by rw[hcl];exact e'⟩
    ·
     obtain⟨c,h1,_⟩:=look e
     exact⟨c,h1⟩
   rcases hy with hy | hy
   ·
    exact key _ hy (.inl rfl)
   ·
    exact key _ hy (.inr rfl)
  ·
   have z:(scope.names.lookup y==some NameKind.cell)=true:=z
   have z:scope.names.lookup y=some .cell:=by simpa using z
   have e:cenv.cells.lookup y=some c:=e
   rw[hcl] at e
   rcases cells_mem (PySem.mem_of_lookup e) with hm | ⟨_,h2,_⟩
   ·
    rcases cloFrom_mem hm with hm | ⟨h1,_⟩
    ·
     cases hm
    ·
     have q:=ok.uniq _ h1
     rw[z] at q;cases q
   ·
    rw[Heap.size_push] at h2
    exact Nat.le_of_succ_le h2
  ·
   show b≠cenv.locals
   rw[hL];exact Nat.ne_of_lt (hfp b hb).2
  ·
   have e:cenv.cells.lookup y=some c:=e
   rcases mem e with ⟨h1,_⟩ | ⟨h1,_⟩
   ·
    exact (hfp b hb).1.2.2.2.2.1 y c h1 z
   ·
    have h2:s.heap.objs.size+1≤b:=by rw[←z];exact h1
    exact absurd (Nat.lt_of_lt_of_le (hfp b hb).2 (Nat.le_of_succ_le h2)) (Nat.lt_irrefl _)
  ·
   rcases (hfp b hb).1.2.2.2.1 with z | z
   ·
    exact I.ok.noex b o e z
   ·
    exact absurd (Nat.lt_of_lt_of_le (Heap.lt_size e) (Nat.le_trans I.ok.bsz z)) (Nat.lt_irrefl _)
  ·
   rcases List.mem_cons.mp (I.stkSub b z) with z | z
   ·
    exact (hfp b hb).1.2.1 z
   ·
    exact (hfp b hb).1.2.2.1 z
 refine⟨okB,rfl,I.bare,Un.kept kp,⟨fun _=>none,?_,fun i y av e1 e2 e3=>?_⟩,fun y c e=>?_,?_,fun y c e=>?_,fun p hp=>?_,I.hok.kept kp,by rw[wipe_length];exact I.len⟩
 ·
  show Heap.Ns _ cenv.locals _
  rw[hL]
  exact Heap.Ns.keeps (Heap.Ns.new ..) fun b o e=>pushCells_keeps _ _ _ _ e
 ·
  obtain⟨e2,hne⟩:=wipe_some e2
  have hfr:scope.names.lookup y=some .free∧(cenv.kindOf y=some .cell∨cenv.kindOf y=some .free):=by
   have key:∀k,cenv.scope.names.lookup y=some k→k=.local∨k=.cell∨k=.free→scope.names.lookup y=some .free∧(cenv.kindOf y=some .cell∨cenv.kindOf y=some .free):=fun k hk hk'=>by
    have hk0:=hk
    rw[hsc] at hk
    obtain⟨k',e,r⟩:=lookup_relS hk
    have no:¬(k'=.local∨k'=.cell):=fun hh=>by
     rcases ok.own _ (PySem.mem_of_lookup e) hh with e' | e'
     ·
      obtain⟨p,hp,hpy⟩:=List.mem_map.mp e'
      have e3:=ok.ix p hp
      have:p.1=y:=hpy
      rw[this] at e3
      exact hne (List.mem_map.mpr ⟨p,hp,nodup_ix hN e3 e1⟩)
     ·
      exact e' (List.mem_of_getElem? e1)
    rcases r with rfl | ⟨rfl,rfl⟩
    ·
     rcases hk' with rfl | rfl | rfl
     ·
      exact absurd (.inl rfl) no
     ·
      exact absurd (.inr rfl) no
     ·
      exact⟨e,.inr hk0⟩
    ·
     exact⟨e,.inl hk0⟩
   have e3:Vis cenv.scope y:=e3
   rcases e3 with e3 | e3 | e3
   ·
    exact key _ e3 (.inl rfl)
   ·
    exact key _ e3 (.inr (.inl rfl))
   ·
    exact key _ e3 (.inr (.inr rfl))
  obtain⟨m,hn,hl⟩:=I.loc
  have hvis:Vis X.env.scope y:=(ok.free _ (PySem.mem_of_lookup hfr.1) rfl).elim (fun k=>.inr (.inl k)) (fun k=>.inr (.inr k))
  obtain⟨w,r,q⟩:=hl i y av e1 e2 hvis
  refine⟨w,r,.inr ⟨hfr.2,?_⟩⟩
  obtain⟨c,h1,h2⟩:=look hfr.1
  rcases q with ⟨k,_⟩ | ⟨_,c',e',z⟩
  ·
   have k:X.env.scope.names.lookup y=some .local:=k
   rcases ok.free _ (PySem.mem_of_lookup hfr.1) rfl with k' | k'<;>rw[show X.env.scope.names.lookup y=_ from k'] at k<;>cases k
  ·
   rw[h2] at e';cases e'
   exact⟨c,h1,z.keeps kp⟩
 ·
  have e:cenv.cells.lookup y=some c:=e
  rcases mem e with ⟨h1,_⟩ | ⟨_,z⟩
  ·
   obtain⟨w,z⟩:=I.cell y c h1
   exact⟨w,z.keeps kp⟩
  ·
   exact⟨_,z⟩
 ·
  show H cenv.locals=none
  rw[hL];exact I.hok.fresh (Nat.le_refl _)
 ·
  have e:cenv.cells.lookup y=some c:=e
  rcases mem e with ⟨h1,_⟩ | ⟨h1,_⟩
  ·
   exact I.freeC y c h1
  ·
   exact I.hok.fresh (Nat.le_of_succ_le h1)
 ·
  exact absurd (show p∈([]:List (Addr×Obj))++[] from hp) (by simp)
theorem app_ok {E:Value→Shared→Prop}{D:Addr}{xs:List V}{y:V}{v:Value}{Q:Value→Shared→Prop}(I:Inv X pins σ H s)(hD:H D=some (.lst xs))(hz:xs.length<sizeLine)(r:AW y v)
  (h:∀s',Inv X pins σ (upd H D (.lst (xs++[y]))) s'→Q .none s'):wpAny (model X.prog X.w) X.A (call (.builtin "list.append") [.ref D,v]) Q E s:=by
 obtain⟨hz',its,n,ri,e⟩:=I.hok D _ hD
 have hl:=ri.length
 refine append_at (hsz:=by rw[List.size_toArray];omega) e fun h' sb ho'=>?_
 refine h {s with heap:=h'} (I.write (t':=s.toks) (by rw[hD];trivial) (.inl rfl) (fun b u hb q=>(sb.2 b hb).trans q) ⟨_,ho'⟩ ⟨by rw[List.length_append];exact hz,its++[v],n+1,ri.append (.cons r .nil),?_⟩)
 rw[ho']
 simp
def PTs (X:Cx)(ifs:List Expr)(t:TT):Prop:=
 ∀(pins:List (Addr×Obj)) (s:Shared) (σ:St) (H:Hp) (Q:Bool→Hp→Prop),Inv X pins σ H s→t σ H Q→
  wpAny (model X.prog X.w) X.A (forIn ifs true fun c r=>if r=true then do let ok←isTrue c X.env (eval c X.env);pure (ForInStep.yield ok) else pure (ForInStep.yield r)) (TP X pins σ Q) X.xe s
def tYes:TT:=fun _ H Q=>Q true H
theorem pts_nil:PTs X [] tYes:=fun _ _ _ H _ I h=>wpAny_tests_nil ⟨H,I,h⟩
theorem pts_one {c:Expr}{t:TT}(h:PT X c t):PTs X [c] t:=fun pins s σ H Q I hw=>wpAny_tests_one (h pins s σ H Q I hw)
end
theorem thnF {α:Type}{t:Sem α}{Q Q':α→Shared→Prop}{M:Model}{A:Around}{E:Value→Shared→Prop}{s:Shared}(h:wpAny M A t Q (fun _ _=>False) s)(hQ:∀a s,Q a s→Q' a s):wpAny M A t Q' E s:=wpAny_mono h hQ fun _ _ z=>False.elim z
theorem compLoop_any {prog:Program}{w:World}{A:Around}{R:Result→Shared→Prop}{s:Shared}{elt target iter:Expr}{ifs:List Expr}{scope:Scope}{pos:Pos}{it acc:Value}{env:Env}(I:Nat→Shared→Prop)
  (turn:∀n s,I n s→wpAny (model prog w) A (pyNext it) (fun r s₁=>match r with
   | none=>R (.ok .next) s₁
   | some v=>wpAny (model prog w) A (letOwnedTupleGo target it v) (fun _ s₁'=>wpAny (model prog w) A (assign target env v) (fun _ s₂=>
     wpAny (model prog w) A (forIn ifs true fun c r=>if r=true then do let ok←isTrue c env (eval c env);pure (ForInStep.yield ok) else pure (ForInStep.yield r)) (fun ok s₃=>
      if ok=true then wpAny (model prog w) A (eval elt env) (fun x s₄=>
       wpAny (model prog w) A (call (.builtin "list.append") [acc,x]) (fun _ s₅=>∃m,m<n∧I m s₅) (notedBy (model prog w) A env fun e s'=>R (.error e) s') s₄) (notedBy (model prog w) A env fun e s'=>R (.error e) s') s₃
      else ∃m,m<n∧I m s₃) (notedBy (model prog w) A env fun e s'=>R (.error e) s') s₂) (notedBy (model prog w) A env fun e s'=>R (.error e) s') s₁') (notedBy (model prog w) A env fun e s'=>R (.error e) s') s₁) (notedBy (model prog w) A env fun e s'=>R (.error e) s') s)
  (n:Nat)(h:I n s):
  codeAny (model prog w) A (.compLoop (.ListComp elt [⟨target,iter,ifs,0⟩] scope pos) 0 it acc env) R s:=by
 refine codeAny_loop rfl I (fun n s hI=>?_) n h
 show wpAny _ A ((compTurn (.ListComp elt [⟨target,iter,ifs,0⟩] scope pos) 0 it acc env).onRaise (fun x=>do noteFrame x env;theTreesLotGoes x)) _ _ s
 refine wpAny_noted ?_
 rw[compTurn_list]
 refine wpAny_bind (wpAny_standAt (wpAny_bind (wpAny_mono (turn n s hI) (fun r s₁ h₁=>?_) fun _ _ h'=>h')))
 cases r with
 | none=>exact wpAny_pure h₁
 |
  some v=>
  refine wpAny_bind (wpAny_mono h₁ (fun _ s₁' h₁'=>?_) fun _ _ h'=>h')
  refine wpAny_bind (wpAny_mono h₁' (fun _ s₂ h₂=>wpAny_bind (wpAny_mono h₂ (fun ok s₃ h₃=>?_) fun _ _ h'=>h')) fun _ _ h'=>h')
  cases ok with
  | false=>exact wpAny_pure ⟨rfl,h₃⟩
  |
   true=>
   exact wpAny_bind (wpAny_bind (wpAny_mono h₃ (fun x s₄ h₄=>wpAny_bind (wpAny_mono h₄ (fun _ s₅ h₅=>wpAny_pure (wpAny_pure ⟨rfl,h₅⟩)) fun _ _ h'=>h')) fun _ _ h'=>h'))
section
variable {X:Cx}
def tLc (wi:TI)(g:TG)(tt:TT)(te:TE)(vs:List Nat):TE:=fun σ H Q=>wi σ H fun J H1=>∀D,H1 D=none→∃W:Nat→Nat→Hp→Prop,(∃m,W 0 m (upd H1 D (.lst [])))∧∀i m H,W i m H→
 (J.stop i H∧Q (.ref D) H)∨(J.go i H∧∃Nx:Hp→Prop,(∀H',Nx H'→∃m',m'<m∧W (i+1) m' H')∧∀x H',J.yld i H x H'→g x (wipe σ vs) H' fun σ2 H2=>wipe σ2 vs=wipe σ vs∧tt σ2 H2 fun b H3=>
  if b=true then te σ2 H3 fun y H4=>∃acc,H4 D=some (.lst acc)∧acc.length<sizeLine∧Nx (upd H4 D (.lst (acc++[y]))) else Nx H3)
theorem lc_core {pins:List (Addr×Obj)}{s:Shared}{σ:St}{H:Hp}{Q:VK}{elt tg iter:Expr}{ifs:List Expr}{scope:Scope}{own:List (Str×Nat)}{pos pos':Pos}{wi:TI}{g:TG}{tt:TT}{te:TE}{use:Option (Value→Sem Unit)}{Qf:Value→Shared→Prop}
  (hc:X.calm=true)(hN:X.N.Nodup)(I:Inv X pins σ H s)(hi:PI X tg iter wi)(ok:BlkOk X.N X.env.scope scope own)
  (hg:∀(s:Shared) (H:Hp) (C:Addr) (cl:List (Str×Addr)) (fp:List Addr),PG (X.blk s H scope (compEnvC scope cl C X.env) fp) tg g)(ht:∀(s:Shared) (H:Hp) (C:Addr) (cl:List (Str×Addr)) (fp:List Addr),PTs (X.blk s H scope (compEnvC scope cl C X.env) fp) ifs tt)
  (he:∀(s:Shared) (H:Hp) (C:Addr) (cl:List (Str×Addr)) (fp:List Addr),PE (X.blk s H scope (compEnvC scope cl C X.env) fp) elt te)(hs:∀x,foldedSetIterable iter X.env x=pure x)
  (h:tLc wi g tt te (own.map (·.2)) σ H Q)
  (hRR:∀D C s' m H',Inv X pins σ H' s'→Q (.ref D) H'→s'.heap.Ns C m→FpOk X pins H' C→compPost (model X.prog X.w) X.A X.xe use Qf (.ref D) C (.ok .next) s'):
  wpAny (model X.prog X.w) X.A (comprehension (.ListComp elt [⟨tg,iter,ifs,0⟩] scope pos) scope X.env pos' (newList []) false (eval iter X.env) use) Qf X.xe s:=by
 have hfree:∀y∈scope.names,y.2=.free→∃c,X.env.cells.lookup y.1=some c:=fun y hy e=>by
  rcases ok.free y hy e with k | k
  ·
   exact I.ok.has _ (.inl k)
  ·
   exact I.ok.has _ (.inr k)
 refine wpAny_comprehension_free (use:=use) rfl hs (closure_ok hfree) ok.kind (fun y hy e=>by rw[ok.uniq y hy,e])
  (thn (hi pins s σ H _ I h) fun xv s1 hx=>thn hx fun itv s2 h2=>?_)
 obtain⟨it,fp,tn,J,H2,e,I2,T,st2,f2,q⟩:=h2
 subst e
 refine wpAny_newObj_type (newEnv_comp ?_) (by show 0≤sizeLine;decide)
 generalize hD:s2.heap.objs.size=D
 have hDn:H2 D=none:=I2.hok.fresh (Nat.le_of_eq hD)
 obtain⟨W,⟨m0,w0⟩,turn⟩:=q D hDn
 generalize hs3:({s2 with heap:=s2.heap.push {cls:=.type "list",data:=.seq ([]:List Value).toArray}}:Shared)=s3
 have I3:Inv X pins σ (upd H2 D (.lst [])) s3:=by
  rw[←hs3]
  refine I2.laid (t':=s2.toks) (fun b o e=>Heap.get?_push_of_some _ e) (Nat.le_of_eq hD) ⟨Nat.zero_le _,[],0,.nil,?_⟩
  rw[←hD]
  exact Heap.get?_push_size _ rfl
 have h3:s3.heap=s2.heap.push {cls:=.type "list",data:=.seq ([]:List Value).toArray}:=by rw[←hs3]
 have sz:∀b∈fp,b<s2.heap.objs.size:=fun b hb=>by
  obtain⟨o,e,_⟩:=T.obj _ _ st2 b hb
  exact Heap.lt_size e
 have f3:∀b∈fp,FpOk X pins (upd H2 D (.lst [])) b∧b<s3.heap.objs.size:=fun b hb=>by
  have hlt:=sz b hb
  refine⟨⟨?_,(f2 b hb).2⟩,by rw[h3,Heap.size_push];exact Nat.lt_succ_of_lt hlt⟩
  rw[Ai (by rw[←hD];exact Nat.ne_of_lt hlt)]
  exact (f2 b hb).1
 have st3:tn 0 s3.heap:=T.keep _ _ _ st2 fun b _ o e=>by rw[h3];exact Heap.get?_push_of_some _ e
 have I4:=block_start I3 ok hN f3
 have pg:=hg s3 (upd H2 D (.lst [])) s3.heap.objs.size (cellsFrom (s3.heap.objs.size+1) scope.names (A0 X.env.cells scope.names [])) fp
 have pt:=ht s3 (upd H2 D (.lst [])) s3.heap.objs.size (cellsFrom (s3.heap.objs.size+1) scope.names (A0 X.env.cells scope.names [])) fp
 have pe:=he s3 (upd H2 D (.lst [])) s3.heap.objs.size (cellsFrom (s3.heap.objs.size+1) scope.names (A0 X.env.cells scope.names [])) fp
 show codeAny _ _ (.compStart (.ListComp elt [⟨tg,iter,ifs,0⟩] scope pos) 0 (.ref it) (.ref D) (compEnvC scope (cellsFrom (s3.heap.objs.size+1) scope.names (A0 X.env.cells scope.names [])) s3.heap.objs.size X.env)) (compPost (model X.prog X.w) X.A X.xe use Qf (.ref D) s3.heap.objs.size) {s3 with heap:=pushCells (s3.heap.push {cls:=.type "dict",data:=.dict #[]}) scope.names}
 have nfp:∀b∈fp,(upd H2 D (.lst [])) b=none:=fun b hb=>(f3 b hb).1.1
 generalize hce:compEnvC scope (cellsFrom (s3.heap.objs.size+1) scope.names (A0 X.env.cells scope.names [])) s3.heap.objs.size X.env=ce at I4 pg pt pe ⊢
 have cL:ce.locals=s3.heap.objs.size:=by subst hce;rfl
 generalize hH3:upd H2 D (.lst [])=H3 at I3 I4 pg pt pe w0 nfp f3
 generalize hs4:({s3 with heap:=pushCells (s3.heap.push {cls:=.type "dict",data:=.dict #[]}) scope.names}:Shared)=s4 at I4 ⊢
 have st4:tn 0 s4.heap:=T.keep _ _ _ st3 fun b _ o e=>by rw[←hs4];exact pushCells_keeps _ _ _ _ (Heap.get?_push_of_some _ e)
 have stat:∀{σ':St} {H':Hp} {s':Shared},Inv (X.blk s3 H3 scope ce fp) [] σ' H' s'→(∀b∈fp,H' b=none)→∀b∈fp,FpOk (X.blk s3 H3 scope ce fp) [] H' b:=fun {σ' H' s'} I' hn b hb=>
  ⟨hn b hb,(I'.ok.exf b hb).1,I'.ok.exfs b hb,.inl hb,fun x c e=>(I'.ok.exf b hb).2 x c e,fun p hp=>absurd (show p∈([]:List (Addr×Obj))++[] from hp) (by simp)⟩
 have loop:codeAny (model X.prog X.w) X.A (.compLoop (.ListComp elt [⟨tg,iter,ifs,0⟩] scope pos) 0 (.ref it) (.ref D) ce) (compPost (model X.prog X.w) X.A X.xe use Qf (.ref D) s3.heap.objs.size) s4:=by
  refine compLoop_any (fun n s'=>∃i H',Inv (X.blk s3 H3 scope ce fp) [] (wipe σ (own.map (·.2))) H' s'∧tn i s'.heap∧(∀b∈fp,H' b=none)∧W i n H') ?_ m0 ⟨0,H3,I4,st4,nfp,w0⟩
  rintro n s5 ⟨i,H5,I5,st5,n5,w5⟩
  rcases turn i n H5 w5 with ⟨stop,qq⟩ | ⟨go,Nx,hNx,step⟩
  ·
   have td:=T.done (X.blk s3 H3 scope ce fp) rfl rfl rfl hc i [] s5 _ H5 (fun _ _=>False) I5 (stat I5 n5) st5 stop
   refine thnF td fun r s6 ⟨hr,I6⟩=>?_
   subst hr
   have I7:Inv X pins σ H5 s6:=I3.call' (ch:=fp) I6.os I6.base I6.hok I6.bare fun b hb=>⟨(f3 b hb).1.2.2.2.1,(f3 b hb).1.2.1,(f3 b hb).1.2.2.2.2.1,(f3 b hb).1.2.2.2.2.2⟩
   have nC:H5 s3.heap.objs.size=none:=by
    have z:H5 ce.locals=none:=I6.free
    rw[cL] at z
    exact z
   obtain⟨m,hn,_⟩:=I6.loc
   have hn:s6.heap.Ns ce.locals m:=hn
   rw[cL] at hn
   exact hRR D s3.heap.objs.size s6 m H5 I7 qq hn (I3.fpOk (Nat.le_refl _) nC)
  ·
   have ti:=T.item (X.blk s3 H3 scope ce fp) rfl rfl rfl hc i [] s5 _ H5 (fun _ _=>False) I5 (stat I5 n5) st5 go
   refine thnF ti fun r s6 ⟨u,hr,h6⟩=>?_
   subst hr
   refine thnF h6 fun _ s7 ⟨x,H7,I7,r7,y7,st7,n7⟩=>?_
   have I7':=I7.pinned (stat I7 n7) (T.obj _ _ st7)
   refine thnF (pg _ s7 _ H7 x u _ I7' r7 (step x H7 y7)) fun _ s8 ⟨σ8,H8,I8,hw8,q8⟩=>?_
   refine thnF (pt _ s8 σ8 H8 _ I8 q8) fun b s9 ⟨H9,I9,q9⟩=>?_
   have fin:∀{s':Shared} {H':Hp},Inv (X.blk s3 H3 scope ce fp) ([]++pinsAt fp s7.heap) σ8 H' s'→Nx H'→∃m,m<n∧∃i H',Inv (X.blk s3 H3 scope ce fp) [] (wipe σ (own.map (·.2))) H' s'∧tn i s'.heap∧(∀b∈fp,H' b=none)∧W i m H':=fun {s' H'} I' nx=>by
    obtain⟨m',hm,w'⟩:=hNx H' nx
    have pin':∀b∈fp,∀o,s7.heap.get? b=some o→s'.heap.get? b=some o∧H' b=none:=fun b hb o e=>
     let z:=I'.pin (b,o) (List.mem_append_right _ (List.mem_append_right _ (mem_pinsAt hb e)))
     ⟨z.1,z.2.1⟩
    have hl:(wipe σ (own.map (·.2))).length=σ8.length:=by rw[←hw8,wipe_length]
    refine⟨m',hm,i+1,H',(I'.unpinned (pins:=[])).weak hl (fun j v e=>?_),T.keep _ _ _ st7 fun b hb o e=>(pin' b hb o e).1,fun b hb=>?_,w'⟩
    ·
     rw[←hw8] at e
     exact (wipe_some e).1
    ·
     obtain⟨o,e,_⟩:=T.obj _ _ st7 b hb
     exact (pin' b hb o e).2
   cases b with
   |
    false=>
    simp only[Bool.false_eq_true,if_false] at q9 ⊢
    exact fin I9 q9
   |
    true=>
    simp only[if_true] at q9 ⊢
    refine thnF (pe _ s9 σ8 H9 _ I9 q9) fun z s10 ⟨yv,H10,I10,r10,acc,hD10,hz10,nx⟩=>?_
    exact app_ok (X:=X.blk s3 H3 scope ce fp) I10 hD10 hz10 r10 fun s11 I11=>fin I11 nx
 exact codeAny_compStart_list loop (T.self X.A 0 _ _ _ st4 loop)
theorem pe_lc {elt tg iter:Expr}{ifs:List Expr}{scope:Scope}{own:List (Str×Nat)}{pos:Pos}{wi:TI}{g:TG}{tt:TT}{te:TE}(hc:X.calm=true)(hN:X.N.Nodup)(hi:PI X tg iter wi)(ok:BlkOk X.N X.env.scope scope own)
  (hg:∀(s:Shared) (H:Hp) (C:Addr) (cl:List (Str×Addr)) (fp:List Addr),PG (X.blk s H scope (compEnvC scope cl C X.env) fp) tg g)(ht:∀(s:Shared) (H:Hp) (C:Addr) (cl:List (Str×Addr)) (fp:List Addr),PTs (X.blk s H scope (compEnvC scope cl C X.env) fp) ifs tt)
  (he:∀(s:Shared) (H:Hp) (C:Addr) (cl:List (Str×Addr)) (fp:List Addr),PE (X.blk s H scope (compEnvC scope cl C X.env) fp) elt te)(hs:∀x,foldedSetIterable iter X.env x=pure x:=by intro _;rfl):
  PE X (.ListComp elt [⟨tg,iter,ifs,0⟩] scope pos) (tLc wi g tt te (own.map (·.2))):=by
 intro pins s σ H Q I h
 rw[eval_ListComp]
 refine lc_core hc hN I hi ok hg ht he hs h fun D C s' m H' I' q hn f=>⟨m,hn,fun h'' sb=>?_⟩
 obtain⟨f0,f1,f2,f3,f4,f5⟩:=f
 exact⟨.ref D,H',I'.turned (t':=s'.toks) (fun b o hb e=>(sb.2 b hb).trans e) f0 f1 f3 f4 f5,rfl,q⟩
theorem ps_setLc {i:Nat}{y:Str}{py:Pos}{elt tg iter:Expr}{ifs:List Expr}{scope:Scope}{own:List (Str×Nat)}{pos spos:Pos}{wi:TI}{g:TG}{tt:TT}{te:TE}(hc:X.calm=true)(hN:X.N.Nodup)(hy:X.N[i]?=some y)(hyl:X.env.scope.names.lookup y=some .local)
  (hsw:swapsWith (.ListComp elt [⟨tg,iter,ifs,0⟩] scope pos) (some (.Name y py)) spos.line X.env=pure true)(hi:PI X tg iter wi)(ok:BlkOk X.N X.env.scope scope own)
  (hg:∀(s:Shared) (H:Hp) (C:Addr) (cl:List (Str×Addr)) (fp:List Addr),PG (X.blk s H scope (compEnvC scope cl C X.env) fp) tg g)(ht:∀(s:Shared) (H:Hp) (C:Addr) (cl:List (Str×Addr)) (fp:List Addr),PTs (X.blk s H scope (compEnvC scope cl C X.env) fp) ifs tt)
  (he:∀(s:Shared) (H:Hp) (C:Addr) (cl:List (Str×Addr)) (fp:List Addr),PE (X.blk s H scope (compEnvC scope cl C X.env) fp) elt te)(hs:∀x,foldedSetIterable iter X.env x=pure x:=by intro _;rfl):
  PS X (.Assign [.Name y py] (.ListComp elt [⟨tg,iter,ifs,0⟩] scope pos) spos) (tAsg (tLc wi g tt te (own.map (·.2))) (gName i)):=by
 intro pins s σ H D I h
 rw[exec_Assign_Name_used _ _ _ _ hsw]
 refine wpAny_bind (wpAny_standAt (wpAny_bind ?_))
 show wpAny _ X.A (do let _←comprehension (.ListComp elt [⟨tg,iter,ifs,0⟩] scope pos) scope X.env (firstIterPos [⟨tg,iter,ifs,0⟩] pos) (newList []) false (eval iter X.env) (some (assign (.Name y py) X.env))) _ _ s
 have h:tLc wi g tt te (own.map (·.2)) σ H (fun x H1=>gName i x σ H1 D.nx):=h
 refine wpAny_bind (thn (lc_core (Qf:=fun _ s'=>SP X pins D .next s') hc hN I hi ok hg ht he hs h fun L C s' m H' I' q hn f=>?_) fun _ s' hq=>wpAny_pure (wpAny_pure hq))
 show wpAny _ _ (assign (.Name y py) X.env (.ref L)) _ _ _
 refine wpAny_assign_Name (store_ok2 (v:=V.ref L) I' hN hy (.inl hyl) rfl (fun s2 I2 ⟨a,sb,ha⟩=>?_) (.inr hyl))
 obtain⟨f0,f1,f2,f3,f4,f5⟩:=f
 have haC:C≠a:=by
  rcases ha with z | z
  ·
   rw[z];exact f1
  ·
   exact fun e=>f4 y a z e.symm
 refine⟨m,hn.sameBut sb haC,fun h3 sb3=>?_⟩
 exact⟨_,H',I2.turned (t':=s2.toks) (fun b o hb e=>(sb3.2 b hb).trans e) f0 f1 f3 f4 f5,q⟩
theorem sw_true {elt:Expr}{gs:List Comprehension}{scope:Scope}{pos py:Pos}{y:Str}{l:Nat}{env:Env}(hk:env.scope.kind=.function)(hy:env.scope.names.lookup y=some .local)(hl:(py.line==pos.line)=true)
  (ha:(scope.names.any fun (n,k)=>n==y&&(k==.local||k==.cell))=false):swapsWith (.ListComp elt gs scope pos) (some (.Name y py)) l env=pure true:=by
 have ky:env.kindOf y=some .local:=hy
 have hb:env.blockKind=.function:=by unfold Env.blockKind;rw[hk];rfl
 unfold swapsWith
 simp only[hb,ky,ha,Expr.pos,hl]
 rfl
end
theorem lc_range {lo:Int}{n:Nat}{g:TG}{tt:TT}{te:TE}{vs:List Nat}{σ:St}{H1:Hp}{D:Addr}{Qd:Hp→Prop}(Pv:Nat→Hp→Prop)(h0:Pv 0 (upd H1 D (.lst [])))
  (hs:∀i H,i<n→Pv i H→g (.int (lo+i)) (wipe σ vs) H fun σ2 H2=>wipe σ2 vs=wipe σ vs∧tt σ2 H2 fun b H3=>
   if b=true then te σ2 H3 fun y H4=>∃acc,H4 D=some (.lst acc)∧acc.length<sizeLine∧Pv (i+1) (upd H4 D (.lst (acc++[y]))) else Pv (i+1) H3)(hd:∀H,Pv n H→Qd H):
  ∃W:Nat→Nat→Hp→Prop,(∃m,W 0 m (upd H1 D (.lst [])))∧∀i m H,W i m H→
   ((
    Itr lo n).stop i H∧Qd H)∨((Itr lo n).go i H∧∃Nx:Hp→Prop,(∀H',Nx H'→∃m',m'<m∧W (i+1) m' H')∧∀x H',(Itr lo n).yld i H x H'→g x (wipe σ vs) H' fun σ2 H2=>wipe σ2 vs=wipe σ vs∧tt σ2 H2 fun b H3=>
    if b=true then te σ2 H3 fun y H4=>∃acc,H4 D=some (.lst acc)∧acc.length<sizeLine∧Nx (upd H4 D (.lst (acc++[y]))) else Nx H3):=by
 refine⟨fun i m H=>m=n-i∧i≤n∧Pv i H,⟨n,by simp,Nat.zero_le _,h0⟩,?_⟩
 rintro i m H ⟨rfl,hi,p⟩
 by_cases hlt:i<n
 ·
  refine .inr ⟨hlt,Pv (i+1),fun H' p'=>⟨n-(i+1),by omega,rfl,hlt,p'⟩,fun x H' y=>?_⟩
  obtain⟨e,y⟩:=y
  subst e y
  exact hs i _ hlt p
 ·
  have e:i=n:=by omega
  subst e
  exact .inl ⟨Nat.le_refl _,hd H p⟩
theorem lc_list {K:PySem.W.Frag}{a:Addr}{xs:List V}{g:TG}{tt:TT}{te:TE}{vs:List Nat}{σ:St}{H1:Hp}{D:Addr}{Qd:Hp→Prop}(Pv:Nat→Hp→Prop)(h0:Pv 0 (upd H1 D (.lst [])))(hl:∀i H,i≤xs.length→Pv i H→SqL K H a xs)
  (hs:∀i x H,xs[i]?=some x→Pv i H→g x (wipe σ vs) H fun σ2 H2=>wipe σ2 vs=wipe σ vs∧tt σ2 H2 fun b H3=>
   if b=true then te σ2 H3 fun y H4=>∃acc,H4 D=some (.lst acc)∧acc.length<sizeLine∧Pv (i+1) (upd H4 D (.lst (acc++[y]))) else Pv (i+1) H3)(hd:∀H,Pv xs.length H→Qd H):
  ∃W:Nat→Nat→Hp→Prop,(∃m,W 0 m (upd H1 D (.lst [])))∧∀i m H,W i m H→
   ((
    Itl K a).stop i H∧Qd H)∨((Itl K a).go i H∧∃Nx:Hp→Prop,(∀H',Nx H'→∃m',m'<m∧W (i+1) m' H')∧∀x H',(Itl K a).yld i H x H'→g x (wipe σ vs) H' fun σ2 H2=>wipe σ2 vs=wipe σ vs∧tt σ2 H2 fun b H3=>
    if b=true then te σ2 H3 fun y H4=>∃acc,H4 D=some (.lst acc)∧acc.length<sizeLine∧Nx (upd H4 D (.lst (acc++[y]))) else Nx H3):=by
 refine⟨fun i m H=>m=xs.length-i∧i≤xs.length∧Pv i H,⟨xs.length,by simp,Nat.zero_le _,h0⟩,?_⟩
 rintro i m H ⟨rfl,hi,p⟩
 have q:=hl i H hi p
 by_cases hlt:i<xs.length
 ·
  refine .inr ⟨⟨xs,xs[i],q,by simp[hlt]⟩,Pv (i+1),fun H' p'=>⟨xs.length-(i+1),by omega,rfl,hlt,p'⟩,fun x H' y=>?_⟩
  obtain⟨e,y⟩:=y
  subst e
  exact hs i x _ (y xs q) p
 ·
  have e:i=xs.length:=by omega
  subst e
  exact .inl ⟨⟨xs,q,Nat.le_refl _⟩,hd H p⟩
theorem lc_tup {K:PySem.W.Frag}{a:Addr}{xs:List V}{g:TG}{tt:TT}{te:TE}{vs:List Nat}{σ:St}{H1:Hp}{D:Addr}{Qd:Hp→Prop}(Pv:Nat→Hp→Prop)(h0:Pv 0 (upd H1 D (.lst [])))(hl:∀i H,i≤xs.length→Pv i H→SqT K H a xs)
  (hs:∀i x H,xs[i]?=some x→Pv i H→g x (wipe σ vs) H fun σ2 H2=>wipe σ2 vs=wipe σ vs∧tt σ2 H2 fun b H3=>
   if b=true then te σ2 H3 fun y H4=>∃acc,H4 D=some (.lst acc)∧acc.length<sizeLine∧Pv (i+1) (upd H4 D (.lst (acc++[y]))) else Pv (i+1) H3)(hd:∀H,Pv xs.length H→Qd H):
  ∃W:Nat→Nat→Hp→Prop,(∃m,W 0 m (upd H1 D (.lst [])))∧∀i m H,W i m H→
   ((
    Itt K a).stop i H∧Qd H)∨((Itt K a).go i H∧∃Nx:Hp→Prop,(∀H',Nx H'→∃m',m'<m∧W (i+1) m' H')∧∀x H',(Itt K a).yld i H x H'→g x (wipe σ vs) H' fun σ2 H2=>wipe σ2 vs=wipe σ vs∧tt σ2 H2 fun b H3=>
    if b=true then te σ2 H3 fun y H4=>∃acc,H4 D=some (.lst acc)∧acc.length<sizeLine∧Nx (upd H4 D (.lst (acc++[y]))) else Nx H3):=by
 refine⟨fun i m H=>m=xs.length-i∧i≤xs.length∧Pv i H,⟨xs.length,by simp,Nat.zero_le _,h0⟩,?_⟩
 rintro i m H ⟨rfl,hi,p⟩
 have q:=hl i H hi p
 by_cases hlt:i<xs.length
 ·
  refine .inr ⟨⟨xs,xs[i],q,by simp[hlt]⟩,Pv (i+1),fun H' p'=>⟨xs.length-(i+1),by omega,rfl,hlt,p'⟩,fun x H' y=>?_⟩
  obtain⟨e,y⟩:=y
  subst e
  exact hs i x _ (y xs q) p
 ·
  have e:i=xs.length:=by omega
  subst e
  exact .inl ⟨⟨xs,q,Nat.le_refl _⟩,hd H p⟩
def blkC (N:List Str)(sc scope:Scope)(own:List (Str×Nat)):Bool:=
 (match scope.kind with | .function=>true | _=>false)&&(scope.names.all fun y=>decide (scope.names.lookup y.1=some y.2))&&(own.all fun p=>decide (N[p.2]?=some p.1))&&
  (scope.names.all fun y=>match y.2 with
   | .free=>(match sc.names.lookup y.1 with | some .cell=>true | some .free=>true | _=>false)
   | .local=>decide (y.1∈own.map (·.1))||decide (y.1∉N)
   | .cell=>decide (y.1∈own.map (·.1))||decide (y.1∉N)
   | _=>true)
theorem A5 {N:List Str}{sc scope:Scope}{own:List (Str×Nat)}(h:blkC N sc scope own=true):BlkOk N sc scope own:=by
 unfold blkC at h
 simp only[Bool.and_eq_true,List.all_eq_true,decide_eq_true_eq] at h
 obtain⟨⟨⟨h1,h2⟩,h3⟩,h4⟩:=h
 refine⟨?_,h2,h3,fun y hy e=>?_,fun y hy e=>?_⟩
 ·
  split at h1
  ·
   assumption
  ·
   cases h1
 ·
  have q:=h4 y hy
  simp only[e] at q
  split at q<;>first | exact .inl (by assumption) | exact .inr (by assumption) | cases q
 ·
  have q:=h4 y hy
  rcases e with e | e<;>(simp only[e,Bool.or_eq_true,decide_eq_true_eq] at q;exact q)
end L2
namespace L2
open PySem PySem.Spec PyProof.Rows
section
variable {prog:Program}{w:World}{A:Around}{R:Result→Shared→Prop}{s:Shared}{elt t0 i0 t1 i1:Expr}{ifs0 ifs1:List Expr}{scope:Scope}{pos:Pos}{it acc:Value}{env:Env}
end
section
variable {X:Cx}
end
end L2
namespace L2
open PySem PySem.Spec PyProof.Rows
section
variable {κ:Type}[DecidableEq κ]
def valV (kvs:List (κ×V))(k:κ):Option V:=(kvs.find? fun kv=>decide (kv.1=k)).map (·.2)
theorem valV_pos {p:κ×V}{r:List (κ×V)}{k:κ}(e:p.1=k):valV (p::r) k=some p.2:=by simp[valV,List.find?_cons,e]
theorem valV_neg {p:κ×V}{r:List (κ×V)}{k:κ}(e:¬p.1=k):valV (p::r) k=valV r k:=by simp[valV,List.find?_cons,e]
theorem KV.val {kvs:List (κ×V)}{vs:List (κ×Value)}(r:KV kvs vs)(k:κ):RelO (valV kvs k) (valueAt vs k):=by
 unfold KV at r
 induction r with
 | nil=>exact True.intro
 |
  @cons p q ps qs h t ih=>
  obtain⟨h1,h2⟩:=h
  by_cases e:p.1=k
  ·
   have e':q.1=k:=h1.symm.trans e
   have b:valueAt (q::qs) k=some q.2:=by simp[valueAt,List.find?_cons,e']
   rw[valV_pos e,b];exact h2
  ·
   have e':¬q.1=k:=fun z=>e (h1.trans z)
   have b:valueAt (q::qs) k=valueAt qs k:=by simp[valueAt,List.find?_cons,e']
   rw[valV_neg e,b];exact ih
end
theorem kV_is {P:Program}{w:World}{k:Key}{u:Value}(r:AW (kV k) u):(mixKind P w).is k u=true:=by
 cases k with
 | inl i=>obtain⟨t,e⟩:=(show ∃t,u=Value.int i t from r);subst e;exact mixKind_int P w i t
 | inr x=>obtain⟨t,e⟩:=(show ∃t,u=Value.str x t from r);subst e;exact mixKind_str P w x t
theorem items_are {P:Program}{w:World}:∀{ks:List Key} {us:List Value},AG (ks.map kV) us→ItemsAre (mixKind P w) ks us
 | [],_,r=>by rw[List.map_nil] at r;cases r;exact .nil
 |
  k::ks,_,r=>by
  rw[List.map_cons] at r
  cases r with
  | cons h t=>exact .cons (kV_is h) (items_are t)
abbrev KT (H:Hp):List (List Key×V)→List (List Key×Addr×Value)→Prop:=Paired fun p q=>p.1=q.1∧H q.2.1=some (.tup (p.1.map kV))∧AW p.2 q.2.2
theorem KT.val {H:Hp}{kvs:List (List Key×V)}{xs:List (List Key×Addr×Value)}(r:KT H kvs xs)(k:List Key):RelO (valV kvs k) ((atKey xs k).map (·.2)):=by
 induction r with
 | nil=>exact True.intro
 |
  @cons p q ps qs h t ih=>
  obtain⟨h1,_,h2⟩:=h
  by_cases e:p.1=k
  ·
   have e':q.1=k:=h1.symm.trans e
   have b:atKey (q::qs) k=some q.2:=by simp[atKey,List.find?_cons,e']
   rw[valV_pos e,b];exact h2
  ·
   have e':¬q.1=k:=fun z=>e (h1.trans z)
   have b:atKey (q::qs) k=atKey qs k:=by simp[atKey,List.find?_cons,e']
   rw[valV_neg e,b];exact ih
section
variable {P:Program}{w:World}{H:Hp}{h:Heap}{a:Addr}
theorem rd_of {u:HO}(ok:HOk P w H h)(e:Rd H a u):ObjOk P w H h a u:=e.ok ok
theorem dk_rd {kvs:List (Key×V)}(ok:HOk P w H h)(e:Rd H a (.dK kvs)):kvs.length≤sizeLine∧(a==sysModules)=false∧∃vs,KV kvs vs∧h.DictOf (mixKind P w) a vs:=
 show ObjOk P w H h a (.dK kvs) from rd_of ok e
theorem key_of {ks:List Key}(ok:HOk P w H h)(e:H a=some (.tup (ks.map kV))):(tupleKind (mixKind P w)).is h ks a:=by
 obtain⟨_,its,r,⟨o,h1,h2,n,h3⟩,_⟩:=(show ObjOk P w H h a (.tup (ks.map kV)) from ok a _ e)
 exact⟨o,its.toArray,n,h1,h2,h3,by simpa using items_are r⟩
theorem dt_rd {kvs:List (List Key×V)}(ok:HOk P w H h)(e:Rd H a (.dT kvs)):kvs.length≤sizeLine∧(a==sysModules)=false∧
  ∃xs,KT H kvs xs∧h.DictOfH (tupleKind (mixKind P w)) a xs:=by
 obtain⟨z,y,xs,r,o,es,ep,h1,h2,h3,h4,h5⟩:=(show ObjOk P w H h a (.dT kvs) from rd_of ok e)
 refine⟨z,y,xs,r,o,es,ep,h1,h2,h3,h4,fun x hx=>?_,h5⟩
 have all:∀{l:List (List Key×V)} {m:List (List Key×Addr×Value)},KT H l m→∀x∈m,(tupleKind (mixKind P w)).is h x.1 x.2.1:=by
  intro l m q
  induction q with
  | nil=>intro x hx;exact nomatch hx
  |
   @cons p q ps qs hq t ih=>
   intro x hx
   rcases List.mem_cons.mp hx with e | hx
   ·
    subst e
    exact key_of ok (by rw[←hq.1];exact hq.2.1)
   ·
    exact ih x hx
 exact all r x hx
end
def DGet (H:Hp)(a:Addr)(y:V)(r:Option V):Prop:=
 (∃kvs k,Rd H a (.dK kvs)∧y=kV k∧r=valV kvs k)∨∃kvs k b,Rd H a (.dT kvs)∧y=.ref b∧H b=some (.tup (k.map kV))∧r=valV kvs k
theorem DGet.t {H:Hp}{a b:Addr}{kvs:List (List Key×V)}{k:List Key}(e:H a=some (.dT kvs))(eb:H b=some (.tup (k.map kV))):DGet H a (.ref b) (valV kvs k):=.inr ⟨kvs,k,b,.inl e,rfl,eb,rfl⟩
section
variable {X:Cx}{pins:List (Addr×Obj)}{σ:St}{H:Hp}{s:Shared}{a:Addr}{y v:V}{u r:Value}{o:Option V}{A:Around}{E:Value→Shared→Prop}
theorem Inv.big (I:Inv X pins σ H s):sysModules<s.heap.objs.size:=by
 have h:mainGlobals<s.heap.objs.size:=(I.mod.glob.keeps I.bk).lt
 exact Nat.lt_trans (by decide) h
theorem d_getItem {Q:Value→Shared→Prop}(hu:A.units+1<cLine)(I:Inv X pins σ H s)(g:DGet H a y (some v))(ry:AW y u)(h:∀w' s',Inv X pins σ H s'→AW v w'→Q w' s'):
  wpAny (model X.prog X.w) A (getItem (.ref a) u) Q E s:=by
 rcases g with ⟨kvs,k,e,ey,l⟩ | ⟨kvs,k,b,e,ey,eb,l⟩
 ·
  subst ey
  obtain⟨z,hd,vs,rel,dd⟩:=dk_rd I.hok e
  obtain⟨w',hw,rw'⟩:=RelO.some_of (v:=v) (o:=valueAt vs k) (by rw[l];exact rel.val k)
  exact wpAny_getItem_of (kV_is ry) dd.mapOf hw (h w' _ (I.tok _) rw')
 ·
  subst ey
  cases (show u=Value.ref b from ry)
  obtain⟨z,hd,xs,rel,dd⟩:=dt_rd I.hok e
  obtain⟨w',hw,rw'⟩:=RelO.some_of (v:=v) (o:=(atKey xs k).map (·.2)) (by rw[l];exact rel.val k)
  obtain⟨p,hp,hp2⟩:=Option.map_eq_some_iff.mp hw
  refine wpAny_getItem_heap (tupleKind_room_in1 hu) (key_of I.hok eb) dd hp ?_
  rw[hp2]
  exact h w' _ (I.tok _) rw'
theorem d_write {h':Heap}{t':Nat}{ob:HO}(I:Inv X pins σ H s)(mu:Mut (H a))(hs:Heap.SameBut a s.heap h')(he:∃q,h'.get? a=some q)(new:ObjOk X.prog X.w (upd H a ob) h' a ob):
  Inv X pins σ (upd H a ob) {s with heap:=h',toks:=t'}:=
 I.write (x:=a) (e:=a) mu (.inl rfl) (fun b q hb z=>(hs.2 b hb).trans z) he new
end
section
variable {X:Cx}{pins:List (Addr×Obj)}{σ:St}{H:Hp}{s:Shared}{a:Addr}{kvs:List (Key×V)}{k:Key}{u:Value}{A:Around}{E:Value→Shared→Prop}
end
def NoSl (i:Expr):Prop:=∀ov iv,subscripted i false ov iv=operate [ov,iv] (getItem ov iv)
theorem subD_of {prog:Program}{w:World}{A:Around}{E:Value→Shared→Prop}{s:Shared}{env:Env}{value slice:Expr}{pos:Pos}{T id:String}{Q:Value→Shared→Prop}
  (hl:typeLookup (.type T) "__getitem__"=pure (some (.builtin id)))(hs:NoSl slice)
  (h:wpAny (model prog w) A (eval value env) (fun o s₁=>wpAny (model prog w) A (eval slice env) (fun i s₂=>s₂.TypeIs o T∧wpAny (model prog w) A (getItem o i) Q E s₂) E s₁) E s):
  wpAny (model prog w) A (eval (.Subscript value slice pos) env) Q E s:=by
 refine Subscript_ (wpAny_mono h (fun o s₁ h₁=>wpAny_mono h₁ (fun i s₂ h₂=>?_) fun _ _ x=>x) fun _ _ x=>x)
 obtain⟨hT,h₂⟩:=h₂
 unfold subscriptTail
 refine wpAny_bind ?_
 rw[getitemInPython_of_ne hT.not_modules]
 refine wpAny_bind (wpAny_specialOf hT hl ?_)
 have fin:wpAny (model prog w) A (subscripted slice false o i) (fun r s₃=>wpAny (model prog w) A (letTemporaryGo value o r>>= fun _=>pure r) Q E s₃) E s₂:=by
  rw[hs o i]
  exact wpAny_operating (wpAny_mono h₂ (fun r s₃ h₃=>wpAny_bind (wpAny_letTemporaryGo (wpAny_pure h₃))) fun _ _ x=>x)
 first
  | exact wpAny_pure (wpAny_bind fin)
  | exact wpAny_bind (wpAny_pure (wpAny_bind fin))
  | exact wpAny_bind fin
theorem dict_typeIs {X:Cx}{pins:List (Addr×Obj)}{σ:St}{H:Hp}{s:Shared}{a:Addr}{y:V}{o:Option V}(I:Inv X pins σ H s)(g:DGet H a y o):s.TypeIs (.ref a) "dict":=by
 rcases g with ⟨kvs,k,e,_,_⟩ | ⟨kvs,k,b,e,_,_,_⟩
 ·
  obtain⟨_,_,vs,_,dd⟩:=dk_rd I.hok e
  exact dd.typeIs
 ·
  obtain⟨_,_,xs,_,dd⟩:=dt_rd I.hok e
  exact dd.typeIs
def tDGet (td ty:TE):TE:=fun σ H Q=>td σ H fun x H1=>ty σ H1 fun y H2=>∃a v,x=.ref a∧DGet H2 a y (some v)∧Q v H2
section
variable {X:Cx}{o i e value:Expr}{pos pos' tpos:Pos}{td ty tv:TE}
theorem pe_dget (hu:X.A.units+1<cLine)(ho:PE X o td)(hi:PE X i ty)(hs:NoSl i):PE X (.Subscript o i pos) (tDGet td ty):=by
 intro pins s σ H Q I h
 refine subD_of PySem.F.slot_dict_getitem.lookup hs (thn (ho pins s σ H _ I h) fun u s1 ⟨x,H1,I1,rx,q1⟩=>thn (hi pins s1 σ H1 _ I1 q1) fun iv s2 ⟨y,H2,I2,ry,a,v,ex,g,q2⟩=>?_)
 subst ex
 obtain rfl:u=Value.ref a:=rx
 exact⟨dict_typeIs I2 g,d_getItem hu I2 g ry fun w' s3 I3 rw'=>⟨v,H2,I3,rw',q2⟩⟩
end
section
variable {X:Cx}{pos:Pos}
end
section
variable {X:Cx}{pins:List (Addr×Obj)}{σ:St}{H:Hp}{s:Shared}{a:Addr}{y d:V}{u r:Value}{o:Option V}{A:Around}{E:Value→Shared→Prop}
end
section
variable {X:Cx}{o e f:Expr}{apos cpos:Pos}{td ty tx:TE}
end
section
variable {X:Cx}{pins:List (Addr×Obj)}{σ:St}{H:Hp}{s:Shared}{a:Addr}{kvs:List (Key×V)}{A:Around}{E:Value→Shared→Prop}
end
section
variable {X:Cx}{pins:List (Addr×Obj)}{σ:St}{H:Hp}{s:Shared}{a:Addr}{y:V}{u:Value}{A:Around}{E:Value→Shared→Prop}
end
end L2
namespace L2
open PySem PySem.Spec PyProof.Rows
theorem list_keys_none:typeLookup (.type "list") "keys"=pure none:=am_miss_of_fast (by first | decide +kernel | rfl)
theorem ud_entry:entryFor table "dict.update.loop"=some Builtin.«dict.update.loop»:=entryFor_of_tree (by kernel_rfl)
theorem ud_plain:plainId "dict.update.loop"=true:=by decide +kernel
section
variable {prog:Program}{w:World}{A:Around}{E:Value→Shared→Prop}
theorem miss_list {s:Shared}{a:Addr}{o:Obj}{xs:Array Value}{k:Nat}{Q:Option Value→Shared→Prop}(hx:s.heap.get? a=some o)(hc:o.cls=.type "list")(hdat:o.data=.seq xs k)(hd:o.dict=none)(hA:A.handled=none)
  (h:∀h' tk,(∀b ob,s.heap.get? b=some ob→h'.get? b=some ob)→Q none {s with heap:=h',toks:=tk}):wpAny (model prog w) A (getAttr? (.ref a) "keys") Q E s:=by
 obtain⟨c,dct,dat,sl⟩:=o
 simp only at hc hdat hd
 subst hc hdat hd
 obtain⟨hp,g,d,tk,os⟩:=s
 have hT:∀tk',(⟨hp,g,d,tk',os⟩:Shared).TypeIs (.ref a) "list":=fun _=>⟨_,hx,rfl⟩
 have hmiss:=list_keys_none
 have hname:(["__module__","__name__","__qualname__","__doc__","__annotations__"]:List Str).contains "keys"=false:=by decide +kernel
 have hsz:("keys":Str).length+100≤sizeLine:=by first | size_fits | decide +kernel
 have f1:=sub_AttributeError
 have f3:=PySem.F.slot_list_getattribute.lookup
 have f4:=PySem.F.slot_list_getattribute.bind (.ref a)
 have f5:=am_list_getattr_none
 unfold getAttr? getAttrBy? getAttrBy
 repeat (any_goals (first | assumption | exact hT _ | ((with_reducible show wpAny _ _ (call (Value.builtin "list.__getattribute__") _ _) _ _ _);refine call_meets PySem.F.slot_list_getattribute (hT _) am_entry_list_getattribute (PySem.F.args_list_getattribute_2 _ _) (meets_getattribute_miss_list a xs k sl "keys" _ hmiss hname hsz) ⟨hx,hA,fun h' tk' e hx'=>?_⟩) | wp_step))
 obtain⟨t',u',he⟩:=hx'.there
 show wpAny _ _ (getattributeRaised _ _ _ _ _ _ _) _ _ _
 unfold getattributeRaised
 repeat (any_goals (first | assumption | wp_step))
 all_goals first | exact h _ _ hx'.keeps | (dsimp only;repeat (any_goals (first | assumption | exact h _ _ hx'.keeps | wp_step)))
end
section
variable {X:Cx}
theorem refs_at:∀{ps:List Addr} {us:List Value},AG (ps.map V.ref) us→us=ps.map Value.ref
 |
  [],us,r=>by
  rw[List.map_nil] at r
  cases r
  rfl
 |
  p::ps,us,r=>by
  rw[List.map_cons] at r
  cases r with
  |
   cons h t=>
   cases h
   rw[List.map_cons,←refs_at t]
end
end L2
namespace L2
open PySem PySem.Spec PyProof.Rows
theorem boot_reversed5:bootBuiltins "reversed"=some (.type "reversed"):=by decide +kernel
section
variable {X:Cx}{pins:List (Addr×Obj)}{σ:St}{H:Hp}{s:Shared}{h':Heap}
theorem Inv.turnedL {t':Nat}{ch:List Addr}(I:Inv X pins σ H s)(k:∀b o,b∉ch→s.heap.get? b=some o→h'.get? b=some o)(hf:∀b∈ch,FpOk X pins H b):Inv X pins σ H {s with heap:=h',toks:=t'}:=by
 have nit:∀b u,H b=some u→b∉ch:=fun b u e z=>by
  have q:=(hf b z).1
  rw[q] at e;cases e
 refine I.step (g':=s.gens) (d':=s.drawn) (ch:=ch) (fun b hb=>⟨(hf b hb).2.2.2.1,(hf b hb).2.1,(hf b hb).2.2.2.2.1,(hf b hb).2.2.2.2.2⟩) (fun b o _ _ hc e _=>k b o hc e) (fun b o _ _ hc e _=>⟨o.slots,k b o hc e⟩)
  (fun _ _ _ _ n=>n) (fun b o hc e=>⟨o,k b o hc e⟩) (fun _ _ e=>e) (fun _ _ _ e=>e) (fun b ps e=>⟨#[],by rw[e];simp⟩) (fun m hm=>?_) (fun b u e=>?_) I.bare
 ·
  obtain⟨o,es,ep,ho,r⟩:=hm
  exact⟨o,es,ep,k _ o (fun z=>(hf _ z).2.1 rfl) ho,r⟩
 ·
  refine (I.hok b u e).stay (fun c v hc q=>k c v ?_ q) (fun _ q=>q) fun _ _ q=>q
  rcases hc with z | z
  ·
   rw[z];exact nit b u e
  ·
   exact nit c _ z
theorem Inv.turnedNew {t':Nat}{ch:List Addr}{T:Addr}{ob:HO}(I:Inv X pins σ H s)(k:∀b o,b∉ch→s.heap.get? b=some o→h'.get? b=some o)(hf:∀b∈ch,FpOk X pins H b)(hT:s.heap.objs.size≤T)
  (new:ObjOk X.prog X.w (upd H T ob) h' T ob):Inv X pins σ (upd H T ob) {s with heap:=h',toks:=t'}:=by
 have hn:H T=none:=I.hok.fresh hT
 have nit:∀b u,H b=some u→b∉ch:=fun b u e z=>by
  have q:=(hf b z).1
  rw[q] at e;cases e
 refine I.step (g':=s.gens) (d':=s.drawn) (ch:=ch) (fun b hb=>⟨(hf b hb).2.2.2.1,(hf b hb).2.1,(hf b hb).2.2.2.2.1,(hf b hb).2.2.2.2.2⟩) (fun b o _ _ hc e _=>k b o hc e) (fun b o _ _ hc e _=>⟨o.slots,k b o hc e⟩)
  (fun b o _ e n=>?_) (fun b o hc e=>⟨o,k b o hc e⟩) (fun b xs e=>?_) (fun b o u e=>?_) (fun b ps e=>⟨#[],?_⟩) (fun m hm=>?_) (fun b u e=>?_) I.bare
 ·
  rw[Ai (Nat.ne_of_lt (Nat.lt_of_lt_of_le (Heap.lt_size e) hT))];exact n
 ·
  rw[Ai (Aj e hn)];exact e
 ·
  rw[Ai (Aj e hn)];exact e
 ·
  rw[Ai (Aj e hn),e];simp
 ·
  obtain⟨o,es,ep,ho,r⟩:=hm
  exact⟨o,es,ep,k _ o (fun z=>(hf _ z).2.1 rfl) ho,r⟩
 ·
  by_cases hb:b=T
  ·
   subst hb
   rw[Ab] at e
   cases e
   exact new
  ·
   rw[Ai hb] at e
   refine (I.hok b u e).stay (fun c v hc q=>k c v ?_ q) (fun c q=>by rw[Ai (Aj q hn)];exact q) fun c xs q=>by rw[Ai (Aj q hn)];exact q
   rcases hc with z | z
   ·
    rw[z];exact nit b u e
   ·
    exact nit c _ z
end
section
variable {X:Cx}
theorem pi_one {tg:Expr}{pins:List (Addr×Obj)}{σ:St}{H:Hp}{s:Shared}{R:It→Hp→Prop}{J:It}{tn:Nat→Heap→Prop}{tk:Nat}(I:Inv X pins σ H s)(o:Obj)
  (T:Turn X.prog X.w X.K tg J [s.heap.objs.size] s.heap.objs.size tn)(st:tn 0 (s.heap.push o))(q:R J H):PIE X pins σ tg R (.ref s.heap.objs.size) {s with heap:=s.heap.push o,toks:=tk}:=by
 refine⟨s.heap.objs.size,[s.heap.objs.size],tn,J,H,rfl,I.kept fun b ob e=>Heap.get?_push_of_some _ e,T,st,fun b hb=>?_,q⟩
 have e:b=s.heap.objs.size:=by simpa using hb
 subst e
 exact I.fpOk (Nat.le_refl _) (I.hok.fresh (Nat.le_refl _))
end
def Itc (lo c:Int)(n:Nat):It:=⟨fun i _=>i<n,fun i H x H'=>H'=H∧x=.int (lo+(i:Nat)*c),fun i _=>n≤i⟩
theorem turn_rangeC {P:Program}{w:World}{K:PySem.W.Frag}{tg:Expr}(it:Addr)(lo c:Int)(n:Nat):Turn P w K tg (Itc lo c n) [it] it (fun i h=>IsRangeIter h it (lo+(i:Nat)*c) ((n:Int)-(i:Nat)) c) where
 mem:=by simp
 obj:=fun i h st b hb=>by
  have e:b=it:=by simpa using hb
  subst e
  exact⟨_,st,fun v z=>nomatch z⟩
 keep:=fun i h h' st k=>k it (by simp) _ st
 item:=by
  intro X hP hw hK hc i pins s σ H E I hf st hg
  subst hP hw hK
  obtain⟨f0,f1,f2,f3,f4,f5⟩:=hf it (by simp)
  have W:=Walks.range (prog:=X.prog) (w:=X.w) (I.ok.hd hc) it lo c n
  refine W.item i s _ _ hg st fun v h' tk hv st' kk=>?_
  obtain⟨t,rfl⟩:=hv
  have I1:Inv X pins σ H {s with heap:=h',toks:=tk}:=I.turned (fun b o hb e=>kk b o (by simpa using hb) e) f0 f1 f3 f4 f5
  exact⟨_,rfl,go_of (s:={s with heap:=h',toks:=tk}) (n:="range_iterator") st' rfl rfl (by decide) ⟨.int (lo+(i:Nat)*c),H,I1,⟨t,rfl⟩,⟨rfl,rfl⟩,st',fun b hb=>(hf b hb).1⟩⟩
 done:=by
  intro X hP hw hK hc i pins s σ H E I hf st hg
  subst hP hw hK
  obtain⟨f0,f1,f2,f3,f4,f5⟩:=hf it (by simp)
  exact wpAny_pyNext_range_end (I.ok.hd hc) st (by have:n≤i:=hg;omega) fun h' eb=>⟨rfl,I.turned (t':=s.toks) (fun b o hb e=>eb b o hb e) f0 f1 f3 f4 f5⟩
 self:=fun A i s Q E st h=>wpAny_pyIter_rangeiter st h
def RgC (i j c:Int)(n:Nat):Prop:=c≠0∧c.natAbs<1073741824∧Builtin.Range.small i j c=true∧Builtin.Range.rangeSize i j c=n
theorem RgC.neg {i j:Int}(ha:-(2^62)≤i)(ha':i<2^62)(hb:-(2^62)≤j)(hb':j<2^62):RgC i j (-1) (i-j).toNat:=
 ⟨by decide,by decide,PySem.W.small_down ha ha' hb hb',PySem.W.rangeSize_downNat i j⟩
def iRng3 (ta:TA):TI:=fun σ H R=>ta σ H fun vs H1=>∃(i j c:Int) (n:Nat),vs=[.int i,.int j,.int c]∧RgC i j c n∧R (Itc i c n) H1
section
variable {X:Cx}{tg:Expr}
theorem pi_range3 {a b c:Expr}{ta:TA}{p pos:Pos}(hg:Gl X "range")(hm:X.mg "range"=none)(ha:PA X [a,b,c] ta)
  (hs:starEach [a,b,c] X.env=(false,eval a X.env)::starEach [b,c] X.env:=by rfl)(hpl:(backTo pos (starEach [b,c] X.env)).any (·.1)=false:=by rfl):
  PI X tg (.Call (.Name "range" p) [a,b,c] [] pos) (iRng3 ta):=by
 intro pins s σ H R I h
 refine Call_ (ld_blt I hg hm boot_range (PyProof.Rows.callWith_type1 (thn (ha pos pins s σ H _ I h) fun us s1 ⟨vs,H1,I1,r1,q1⟩=>?_) hs hpl))
 obtain⟨i,j,k,n,e,⟨c0,c1,c2,c3⟩,q⟩:=q1
 subst e
 cases r1 with
 |
  cons r rr=>
  cases rr with
  |
   cons r' rr=>
   cases rr with
   |
    cons r'' rr=>
    cases rr
    obtain⟨t,rfl⟩:=r
    obtain⟨t',rfl⟩:=r'
    obtain⟨t'',rfl⟩:=r''
    refine call_range_3 c0 ?_ (.inl (PyProof.noPylong_small c1))
    refine wpAny_pyIter_range (IsRange.new ..) c2 ?_
    have I2:Inv X pins σ H1 {s1 with heap:=s1.heap.push {cls:=.type "range",data:=.fields #[.int i t,.int j t',.int k t'']}}:=I1.kept (t':=s1.toks) fun b o e=>Heap.get?_push_of_some _ e
    refine pi_one (tk:=s1.toks) I2 _ (turn_rangeC _ i k n) ?_ q
    have e1:i+((0:Nat):Int)*k=i:=by simp
    have e2:(n:Int)-((0:Nat):Int)=Builtin.Range.rangeSize i j k:=by rw[c3];simp
    show IsRangeIter _ _ (i+((0:Nat):Int)*k) ((n:Int)-((0:Nat):Int)) k
    rw[e1,e2]
    exact Heap.get?_push_size _ rfl
end
theorem for_rangeC {lo c:Int}{n:Nat}{g:TG}{tb:TS}{D:Ends}{σ:St}{H:Hp}(Pv:Nat→St→Hp→Prop)(h0:Pv 0 σ H)
  (hs:∀i σ H,i<n→Pv i σ H→g (.int (lo+(i:Nat)*c)) σ H fun σ2 H2=>tb {D with nx:=Pv (i+1),ct:=Pv (i+1),bk:=D.nx} σ2 H2)(hd:∀σ H,Pv n σ H→D.nx σ H):
  ∃W:Nat→Nat→St→Hp→Prop,(∃m,W 0 m σ H)∧∀i m σ H,W i m σ H→
   ((Itc lo c n).stop i H∧D.nx σ H)∨((Itc lo c n).go i H∧∃N:St→Hp→Prop,(∀σ' H',N σ' H'→∃m',m'<m∧W (i+1) m' σ' H')∧∀x H',(Itc lo c n).yld i H x H'→g x σ H' fun σ2 H2=>tb {D with nx:=N,ct:=N,bk:=D.nx} σ2 H2):=by
 refine⟨fun i m σ H=>m=n-i∧i≤n∧Pv i σ H,⟨n,by simp,Nat.zero_le _,h0⟩,?_⟩
 rintro i m σ H ⟨rfl,hi,p⟩
 by_cases hlt:i<n
 ·
  refine .inr ⟨hlt,Pv (i+1),fun σ' H' p'=>⟨n-(i+1),by omega,rfl,hlt,p'⟩,fun x H' y=>?_⟩
  obtain⟨e,y⟩:=y
  subst e y
  exact hs i σ _ hlt p
 ·
  have e:i=n:=by omega
  subst e
  exact .inl ⟨Nat.le_refl _,hd σ H p⟩
section
variable {X:Cx}{tg:Expr}
end
section
variable {prog:Program}{w:World}{A:Around}{E:Value→Shared→Prop}{s:Shared}
end
section
variable {X:Cx}{pins:List (Addr×Obj)}{σ:St}{H:Hp}{s:Shared}{d:Addr}{o:Obj}
end
section
variable {P:Program}{w:World}{K:PySem.W.Frag}{tg:Expr}{d:Addr}{o:Obj}{es:Array DictEntry}{ep:Nat}
end
section
variable {X:Cx}{tg e:Expr}{td:TE}{apos cpos:Pos}
end
def Ite (K:PySem.W.Frag)(a:Addr):It:=
 ⟨fun i H=>∃(xs:List V) (x:V),SqL K H a xs∧xs[i]?=some x,fun i H v H'=>∃T x,v=.ref T∧H T=none∧H'=upd H T (.tup [.int (i:Nat),x])∧∀xs,SqL K H a xs→xs[i]?=some x,fun i H=>∃xs:List V,SqL K H a xs∧xs.length≤i⟩
theorem turn_enum {P:Program}{w:World}{K:PySem.W.Frag}{elts:List Expr}{kk:Nat}{tpos:Pos}(a e it:Addr):
  Turn P w K (.Tuple elts kk tpos) (Ite K a) [e,it] e (fun i h=>(∃old,IsEnum h e it ((i:Nat):Int) old)∧h.IsListIter it a i∧e≠it) where
 mem:=by simp
 obj:=fun i h st b hb=>by
  obtain⟨⟨old,he⟩,⟨o,ho,hc,hd⟩,_⟩:=st
  have e':b=e∨b=it:=by simpa using hb
  rcases e' with z | z
  ·
   rw[z];exact⟨_,he,fun v q=>nomatch q⟩
  ·
   rw[z];exact⟨o,ho,fun v q=>by rw[hd] at q;cases q⟩
 keep:=fun i h h' st k=>let ⟨⟨old,he⟩,hi,hne⟩:=st;⟨⟨old,k e (by simp) _ he⟩,hi.at fun o q=>k it (by simp) o q,hne⟩
 item:=by
  intro X hP hw hK hc i pins s σ H E I hf st hg
  subst hP hw hK
  obtain⟨⟨old,he⟩,hit,hne⟩:=st
  obtain⟨xs,x,hq,hx⟩:=hg
  obtain⟨its,rv,p,hz⟩:=I.list hq
  obtain⟨u,hu,ru⟩:=rv.get hx
  have hel:e<s.heap.objs.size:=Heap.lt_size he
  have hil:it<s.heap.objs.size:=by obtain⟨_,q,_⟩:=hit;exact Heap.lt_size q
  refine wpAny_pyNext_enum_item he hit p.isList (x:=u) (by simpa using hu) hne fun h' ho hit' hT hsz hk=>?_
  refine⟨_,rfl,wpAny_letOwnedTupleGo_enum (s:={s with heap:=h',toks:=s.toks+1}) ho fun h'' he' sb=>?_⟩
  have hT2:h''.get? s.heap.objs.size=some {cls:=.type "tuple",data:=.seq #[.int i s.toks,u]}:=(sb.2 _ (Nat.ne_of_gt hel)).trans hT
  have new:ObjOk X.prog X.w (upd H s.heap.objs.size (.tup [.int (i:Nat),x])) h'' s.heap.objs.size (.tup [.int (i:Nat),x]):=
   ⟨by show 2≤sizeLine;decide,[.int i s.toks,u],.cons ⟨_,rfl⟩ (.cons ru .nil),⟨_,hT2,rfl,_,rfl⟩,fun o e=>by rw[hT2] at e;cases e;rfl⟩
  have I1:Inv X pins σ (upd H s.heap.objs.size (.tup [.int (i:Nat),x])) {s with heap:=h'',toks:=s.toks+1}:=
   I.turnedNew (ch:=[e,it]) (fun b ob hb q=>(sb.2 b (fun z=>hb (by simp[z]))).trans (hk b ob (fun z=>hb (by simp[z])) (fun z=>hb (by simp[z])) q)) hf (Nat.le_refl _) new
  refine⟨.ref s.heap.objs.size,_,I1,rfl,⟨_,x,rfl,I.hok.fresh (Nat.le_refl _),rfl,fun ys hy=>by rw[I.list_inj hy hq];exact hx⟩,⟨⟨u,?_⟩,hit'.at fun o q=>(sb.2 it (Ne.symm hne)).trans q,hne⟩,fun b hb=>?_⟩
  ·
   have e1:((i+1:Nat):Int)=(i:Int)+1:=by omega
   rw[e1];exact he'
  ·
   have hb':b<s.heap.objs.size:=by
    have e':b=e∨b=it:=by simpa using hb
    rcases e' with z | z
    ·
     rw[z];exact hel
    ·
     rw[z];exact hil
   rw[Ai (Nat.ne_of_lt hb')]
   exact (hf b hb).1
 done:=by
  intro X hP hw hK hc i pins s σ H E I hf st hg
  subst hP hw hK
  obtain⟨⟨old,he⟩,hit,hne⟩:=st
  obtain⟨xs,hq,hx⟩:=hg
  obtain⟨its,rv,p,hz⟩:=I.list hq
  obtain⟨f0,f1,f2,f3,f4,f5⟩:=hf it (by simp)
  have hl:=rv.length
  exact wpAny_pyNext_enum_end (I.ok.hd hc) he hit p.isList (by simp;omega) fun h' eb=>⟨rfl,I.turned (t':=s.toks) (fun b o hb q=>eb b o hb q) f0 f1 f3 f4 f5⟩
 self:=fun A i s Q E st h=>let ⟨⟨_,he⟩,_⟩:=st;wpAny_pyIter_enum he h
def iEnum (K:PySem.W.Frag)(ta:TA):TI:=fun σ H R=>ta σ H fun vs H1=>∃a xs,vs=[.ref a]∧SqL K H1 a xs∧R (Ite K a) H1
theorem pi_enum {X:Cx}{e:Expr}{ta:TA}{p pos tpos:Pos}{elts:List Expr}{kk:Nat}(hg:Gl X "enumerate")(hm:X.mg "enumerate"=none)(ha:PA X [e] ta)(hs:starEach [e] X.env=[(false,eval e X.env)]:=by rfl):
  PI X (.Tuple elts kk tpos) (.Call (.Name "enumerate" p) [e] [] pos) (iEnum X.K ta):=by
 intro pins s σ H R I h
 refine Call_ (ld_blt I hg hm boot_enumerate (PyProof.Rows.callWith_type1 (thn (ha pos pins s σ H _ I h) fun us s1 ⟨vs,H1,I1,r1,q1⟩=>?_) hs rfl))
 obtain⟨a,xs,ex,hq,q⟩:=q1
 subst ex
 cases r1 with
 |
  cons r rr=>
  cases rr
  cases r
  obtain⟨its,rv,p',hz⟩:=I1.list hq
  refine call_enumerate_list p'.isList fun h' he hit hsz hk=>wpAny_pyIter_enum he ?_
  have I2:Inv X pins σ H1 {s1 with heap:=h'}:=I1.kept (t':=s1.toks) hk
  refine⟨s1.heap.objs.size+1,[s1.heap.objs.size+1,s1.heap.objs.size],_,_,H1,rfl,I2,turn_enum a (s1.heap.objs.size+1) s1.heap.objs.size,⟨⟨.none,he⟩,hit,Nat.succ_ne_self _⟩,fun b hb=>?_,q⟩
  have e':b=s1.heap.objs.size+1∨b=s1.heap.objs.size:=by simpa using hb
  have hle:s1.heap.objs.size≤b:=by
   rcases e' with z | z
   ·
    rw[z];exact Nat.le_add_right _ _
   ·
    rw[z];exact Nat.le_refl _
  exact I1.fpOk hle (I1.hok.fresh hle)
theorem boot_zip5:bootBuiltins "zip"=some (.type "zip"):=by decide +kernel
def Itz (K:PySem.W.Frag)(a b:Addr):It:=
 ⟨fun i H=>∃(xs ys:List V) (x y:V),SqL K H a xs∧SqL K H b ys∧xs[i]?=some x∧ys[i]?=some y,
  fun i H v H'=>∃T x y,v=.ref T∧H T=none∧H'=upd H T (.tup [x,y])∧(∀xs,SqL K H a xs→xs[i]?=some x)∧∀ys,SqL K H b ys→ys[i]?=some y,
  fun i H=>∃xs ys:List V,SqL K H a xs∧SqL K H b ys∧(xs.length≤i∨ys.length≤i)⟩
theorem turn_zip {P:Program}{w:World}{K:PySem.W.Frag}{elts:List Expr}{kk:Nat}{tpos:Pos}{a b z TI TO i1 i2:Addr}(D:ZipApart z TI TO i1 i2 a b):
  Turn P w K (.Tuple elts kk tpos) (Itz K a b) [z,TI,TO,i1,i2] z (fun i h=>IsZip h z TI TO .none∧IsPair h TI (.ref i1) (.ref i2)∧(∃x y,IsPair h TO x y)∧h.IsListIter i1 a i∧h.IsListIter i2 b i) where
 mem:=by simp
 obj:=fun i h st c hc=>by
  obtain⟨hz,hTI,⟨x,y,hTO⟩,⟨o1,e1,_,d1⟩,⟨o2,e2,_,d2⟩⟩:=st
  have e':c=z∨c=TI∨c=TO∨c=i1∨c=i2:=by simpa using hc
  rcases e' with q | q | q | q | q
  ·
   rw[q];exact⟨_,hz,fun v q=>nomatch q⟩
  ·
   rw[q];exact⟨_,hTI,fun v q=>nomatch q⟩
  ·
   rw[q];exact⟨_,hTO,fun v q=>nomatch q⟩
  ·
   rw[q];exact⟨o1,e1,fun v q=>by rw[d1] at q;cases q⟩
  ·
   rw[q];exact⟨o2,e2,fun v q=>by rw[d2] at q;cases q⟩
 keep:=fun i h h' st k=>by
  obtain⟨hz,hTI,⟨x,y,hTO⟩,h1,h2⟩:=st
  exact⟨k z (by simp) _ hz,k TI (by simp) _ hTI,⟨x,y,k TO (by simp) _ hTO⟩,h1.at fun o q=>k i1 (by simp) o q,h2.at fun o q=>k i2 (by simp) o q⟩
 item:=by
  intro X hP hw hK hc i pins s σ H E I hf st hg
  subst hP hw hK
  obtain⟨hz,hTI,⟨x0,y0,hTO⟩,h1,h2⟩:=st
  obtain⟨xs,ys,x,y,hqx,hqy,hx,hy⟩:=hg
  obtain⟨its,rv,p,_⟩:=I.list hqx
  obtain⟨its2,rv2,p2,_⟩:=I.list hqy
  obtain⟨u,hu,ru⟩:=rv.get hx
  obtain⟨u2,hu2,ru2⟩:=rv2.get hy
  have hzl:z<s.heap.objs.size:=Heap.lt_size hz
  refine wpAny_pyNext_zip_item D hz hTI hTO h1 h2 p.isList p2.isList (x:=u) (y:=u2) (by simpa using hu) (by simpa using hu2) fun h' z' TO' h1' h2' hT hsz hk=>?_
  refine⟨_,rfl,wpAny_letOwnedTupleGo_zip (s:={s with heap:=h'}) z' fun h'' z'' sb=>?_⟩
  have hT2:h''.get? s.heap.objs.size=some {cls:=.type "tuple",data:=.seq #[u,u2]}:=(sb.2 _ (Nat.ne_of_gt hzl)).trans hT
  have new:ObjOk X.prog X.w (upd H s.heap.objs.size (.tup [x,y])) h'' s.heap.objs.size (.tup [x,y]):=
   ⟨by show 2≤sizeLine;decide,[u,u2],.cons ru (.cons ru2 .nil),⟨_,hT2,rfl,_,rfl⟩,fun o e=>by rw[hT2] at e;cases e;rfl⟩
  have I1:Inv X pins σ (upd H s.heap.objs.size (.tup [x,y])) {s with heap:=h''}:=
   I.turnedNew (t':=s.toks) (ch:=[z,TI,TO,i1,i2]) (fun c o hb q=>(sb.2 c (fun q'=>hb (by simp[q']))).trans (hk c o (fun q'=>hb (by simp[q'])) (fun q'=>hb (by simp[q'])) (fun q'=>hb (by simp[q'])) (fun q'=>hb (by simp[q'])) q)) hf (Nat.le_refl _) new
  refine⟨.ref s.heap.objs.size,_,I1,rfl,⟨_,x,y,rfl,I.hok.fresh (Nat.le_refl _),rfl,fun l hl=>by rw[I.list_inj hl hqx];exact hx,fun l hl=>by rw[I.list_inj hl hqy];exact hy⟩,⟨z'',?_,⟨u,u2,?_⟩,?_,?_⟩,fun c hcm=>?_⟩
  ·
   exact (sb.2 _ D.TIz).trans (hk _ _ D.TIz D.TITO D.TIi1 D.TIi2 hTI)
  ·
   exact (sb.2 _ D.TOz).trans TO'
  ·
   exact h1'.at fun o q=>(sb.2 _ D.i1z).trans q
  ·
   exact h2'.at fun o q=>(sb.2 _ D.i2z).trans q
  ·
   have hlt:c<s.heap.objs.size:=by
    have e':c=z∨c=TI∨c=TO∨c=i1∨c=i2:=by simpa using hcm
    rcases e' with q | q | q | q | q
    ·
     rw[q];exact hzl
    ·
     rw[q];exact Heap.lt_size hTI
    ·
     rw[q];exact Heap.lt_size hTO
    ·
     rw[q];obtain⟨_,e1,_⟩:=h1;exact Heap.lt_size e1
    ·
     rw[q];obtain⟨_,e2,_⟩:=h2;exact Heap.lt_size e2
   rw[Ai (Nat.ne_of_lt hlt)]
   exact (hf c hcm).1
 done:=by
  intro X hP hw hK hc i pins s σ H E I hf st hg
  subst hP hw hK
  obtain⟨hz,hTI,⟨x0,y0,hTO⟩,h1,h2⟩:=st
  obtain⟨xs,ys,hqx,hqy,hend⟩:=hg
  obtain⟨its,rv,p,_⟩:=I.list hqx
  obtain⟨its2,rv2,p2,_⟩:=I.list hqy
  have l1:=rv.length
  have l2:=rv2.length
  have he:its.toArray[i]?=none∨its2.toArray[i]?=none:=by
   rcases hend with q | q
   ·
    exact .inl (by simp;omega)
   ·
    exact .inr (by simp;omega)
  exact wpAny_pyNext_zip_end (I.ok.hd hc) D hz hTI hTO h1 h2 p.isList p2.isList he fun h' hk=>⟨rfl,I.turnedL (t':=s.toks) (ch:=[z,TI,TO,i1,i2]) (fun c o hb q=>
   hk c o (fun q'=>hb (by simp[q'])) (fun q'=>hb (by simp[q'])) (fun q'=>hb (by simp[q'])) (fun q'=>hb (by simp[q'])) q) hf⟩
 self:=fun A i s Q E st h=>wpAny_pyIter_zip st.1 h
def iZip (K:PySem.W.Frag)(ta:TA):TI:=fun σ H R=>ta σ H fun vs H1=>∃a b xs ys,vs=[.ref a,.ref b]∧SqL K H1 a xs∧SqL K H1 b ys∧R (Itz K a b) H1
theorem pi_zip {X:Cx}{e e2:Expr}{ta:TA}{p pos tpos:Pos}{elts:List Expr}{kk:Nat}(hg:Gl X "zip")(hm:X.mg "zip"=none)(ha:PA X [e,e2] ta)
  (hs:starEach [e,e2] X.env=(false,eval e X.env)::starEach [e2] X.env:=by rfl)(hpl:(backTo pos (starEach [e2] X.env)).any (·.1)=false:=by rfl):
  PI X (.Tuple elts kk tpos) (.Call (.Name "zip" p) [e,e2] [] pos) (iZip X.K ta):=by
 intro pins s σ H R I h
 refine Call_ (ld_blt I hg hm boot_zip5 (PyProof.Rows.callWith_type1 (thn (ha pos pins s σ H _ I h) fun us s1 ⟨vs,H1,I1,r1,q1⟩=>?_) hs hpl))
 obtain⟨a,b,xs,ys,ex,hqx,hqy,q⟩:=q1
 subst ex
 cases r1 with
 |
  cons r rr=>
  cases rr with
  |
   cons r' rr=>
   cases rr
   cases r
   cases r'
   obtain⟨its,rv,p1,_⟩:=I1.list hqx
   obtain⟨its2,rv2,p2,_⟩:=I1.list hqy
   have la:a<s1.heap.objs.size:=p1.lt
   have lb:b<s1.heap.objs.size:=p2.lt
   refine call_zip_2 p1.isList p2.isList fun h' hz hTI hTO h1 h2 hsz hk=>wpAny_pyIter_zip hz ?_
   have I2:Inv X pins σ H1 {s1 with heap:=h'}:=I1.kept (t':=s1.toks) hk
   refine⟨s1.heap.objs.size+4,[s1.heap.objs.size+4,s1.heap.objs.size+2,s1.heap.objs.size+3,s1.heap.objs.size,s1.heap.objs.size+1],_,_,H1,rfl,I2,turn_zip (PySem.W.ktu_apart s1.heap.objs.size a b la lb),⟨hz,hTI,⟨_,_,hTO⟩,h1,h2⟩,fun c hcm=>?_,q⟩
   have e':c=s1.heap.objs.size+4∨c=s1.heap.objs.size+2∨c=s1.heap.objs.size+3∨c=s1.heap.objs.size∨c=s1.heap.objs.size+1:=by simpa using hcm
   have hle:s1.heap.objs.size≤c:=by
    rcases e' with z | z | z | z | z
    ·
     rw[z];exact Nat.le_add_right _ _
    ·
     rw[z];exact Nat.le_add_right _ _
    ·
     rw[z];exact Nat.le_add_right _ _
    ·
     rw[z];exact Nat.le_refl _
    ·
     rw[z];exact Nat.le_add_right _ _
   exact I1.fpOk hle (I1.hok.fresh hle)
end L2
namespace L2
open PySem PySem.Spec PyProof.Rows
def defArgs (s:Stmt):Arguments:=match s with
 | .FunctionDef _ a _ _ _ _ _ _ _ _=>a
 | _=>{posonlyargs:=[],args:=[],vararg:=none,kwonlyargs:=[],kw_defaults:=[],kwarg:=none,defaults:=[]}
def defBody (s:Stmt):List Stmt:=match s with
 | .FunctionDef _ _ b _ _ _ _ _ _ _=>b
 | _=>[]
def Ag (s:Stmt):Scope:=match s with
 | .FunctionDef _ _ _ _ _ _ sc _ _ _=>sc
 | _=>{kind:=.function,names:=[],isGenerator:=false,isCoroutine:=false}
abbrev CX0:CXT:=fun _ _ _ _ _ _=>False
abbrev E0:XK:=fun _ _ _=>False
theorem Ap {X:Cx}:Passes CX0 X E0:=fun _ _ _ _ _ _ _ h=>h.elim
structure Fun (K:PySem.W.Frag)(x qual:Str)(st:Stmt)(f:Addr)(fd:FuncData):Prop where
 ex:∃(oc:Value) (od:Option Addr) (kV doc pm:Value) (an:Option Addr) (cdv ct:Value) (osl:Array (Option Value)),
  fd=PySem.W.fnOf x qual (defArgs st) (defBody st) (Ag st) .none kV doc pm an cdv ct∧K.lookup f=some ⟨oc,od,.func fd,osl⟩∧PySem.W.codeIn K cdv qual=true
 kp:PySem.W.keepIn K (.ref f)=true
section
variable {P:Program}{w:World}{K:PySem.W.Frag}{mg:Str→Option Value}{base:Heap}
theorem Fun.ok {x qual:Str}{st:Stmt}{f:Addr}{fd:FuncData}{N ps:List Str}{k:Nat}{sp:Sp}(F:Fun K x qual st f fd)(S:Aq N ps (Ag st))(len:∀vs H Q E,sp vs H Q E→vs.length=ps.length)
  (hbody:∀(cdv:Value) (A:Around) (outer:List Env) (s:Shared) (H:Hp) (vs:List V) (Q:VK) (E:XK),AM k (A.deeper (envOfC qual (Ag st) s.heap.objs.size f cdv))→sp vs H Q E→
   ∃t,PSs (cxOf CX0 P w K mg base N qual (Ag st) f cdv A outer s H E).nox (defBody st) t∧t {nx:=fun _ H'=>Q .non H',rt:=Q} (start N vs) H):Ah P w K mg base CX0 (k+1) f fd ps sp:=by
 obtain⟨oc,od,kV,doc,pm,an,cdv,ct,osl,rfl,lk,hcd⟩:=F.ex
 refine fn_of lk hcd S len fun A outer s H vs Q E hr hsp=>?_
 obtain⟨t,h,q⟩:=hbody cdv A outer s H vs Q E hr hsp
 exact⟨t,h.nox,q⟩
theorem Fun.binds {x qual:Str}{st:Stmt}{f:Addr}{fd:FuncData}{ps:List Str}(F:Fun K x qual st f fd)
  (h:∀(kV doc pm:Value) (an:Option Addr) (cdv ct:Value) (us:List Value),us.length=ps.length→bindArgs (PySem.W.fnOf x qual (defArgs st) (defBody st) (Ag st) .none kV doc pm an cdv ct) ⟨us,[]⟩=pure (ps.zip us)):An K fd ps []:=by
 obtain⟨oc,od,kV,doc,pm,an,cdv,ct,osl,rfl,lk,hcd⟩:=F.ex
 exact .all (h kV doc pm an cdv ct)
theorem fun_mk {x qual:Str}{st:Stmt}{f:Addr}{oc:Value}{od an:Option Addr}{osl:Array (Option Value)}{kV doc pm cdv ct:Value}(l:K.lookup f=some ⟨oc,od,.func (PySem.W.fnOf x qual (defArgs st) (defBody st) (Ag st) .none kV doc pm an cdv ct),osl⟩)
  (c:PySem.W.codeIn K cdv qual=true)(k:PySem.W.keepIn K (.ref f)=true):Fun K x qual st f (PySem.W.fnOf x qual (defArgs st) (defBody st) (Ag st) .none kV doc pm an cdv ct):=⟨⟨oc,od,kV,doc,pm,an,cdv,ct,osl,rfl,l,c⟩,k⟩
end
theorem hu_of {A:Around}{k:Nat}(hr:AM k A):A.units+1<cLine:=Nat.lt_of_le_of_lt (Nat.add_le_add_left (by decide:1≤64) _) hr.units
theorem AC {n:Nat}(h:n≤1000):n<sizeLine:=Nat.lt_of_le_of_lt h (by decide)
section
variable {X:Cx}
theorem pv (i:Nat){x:Str}{pos:Pos}(hN:X.N[i]?=some x:=by rfl)(hv:Vis X.env.scope x:=by first | exact Or.inl rfl | exact Or.inr (Or.inl rfl) | exact Or.inr (Or.inr rfl))(hd:(x==("__debug__":Str))=false:=by decide)
  (hcd:(x==("__classdict__":Str))=false:=by decide):PE X (.Name x pos) (tVar i):=pe_var hN hv hd hcd
end
theorem A3 {A B:Prop}(h:B):if false=true then A else B:=by
 rw[if_neg Bool.false_ne_true]
 exact h
theorem AY {A B:Prop}(h:A):if true=true then A else B:=by
 rw[if_pos rfl]
 exact h
def Ae (H H':Hp):Prop:=∀b o,H b=some o→H' b=some o
theorem Ae.refl (H:Hp):Ae H H:=fun _ _ h=>h
theorem Ae.trans {H H1 H2:Hp}(a:Ae H H1)(b:Ae H1 H2):Ae H H2:=fun c o h=>b c o (a c o h)
theorem Ae.free {H H':Hp}(e:Ae H H'){l:Addr}(h:H' l=Option.none):H l=Option.none:=by
 cases q:H l with
 | none=>rfl
 |
  some o=>
  rw[e l o q] at h
  cases h
theorem Ae.seq {K:PySem.W.Frag}{H H':Hp}{a:Addr}{xs:List V}(e:Ae H H')(h:SqL K H a xs):SqL K H' a xs:=by
 rcases h with (h | ⟨o,h⟩) | h
 ·
  exact .inl (.inl (e _ _ h))
 ·
  exact .inl (.inr ⟨o,e _ _ h⟩)
 ·
  exact .inr h
section
variable {κ:Type}[DecidableEq κ]
end
end L2
namespace L2
open PySem PySem.Spec PyProof.Rows
def CBig (i j:Int):Prop:=i.natAbs<2^2000∧j.natAbs<2^2000
theorem CBig.ok {i j:Int}(h:CBig i j):IntMulOk i j:=
 IntMulOk.of_le (m:=2000) (n:=2000) (intBits_le_iff.mpr h.1) (intBits_le_iff.mpr h.2) (by decide)
theorem noPylong_big {a b:Int}(h:b.natAbs<2^2000):Builtin.divisionGoesByPylong a b=false:=by
 apply PyProof.noPylong_of_log2
 rcases Nat.eq_zero_or_pos b.natAbs with e | e
 ·
  rw[e];decide
 ·
  have:=(Nat.log2_lt (Nat.ne_of_gt e)).mpr h
  omega
section
variable {X:Cx}
theorem op_mulB:OpR X (binaryOp .Mult) (rI CBig fun i j=>.int (i*j)):=opI fun _ _ _ _ _ _ _ hc q=>mul_int q hc.ok
theorem op_fdivB:OpR X (binaryOp .FloorDiv) (rI (fun _ j=>j≠0∧j.natAbs<2^2000) fun i j=>.int (i.fdiv j)):=
 opI fun _ _ _ _ _ _ _ hc q=>floordiv_int hc.1 q (.inl (noPylong_big hc.2))
theorem cat_tup0 {P:Program}{w:World}{A:Around}{E:Value→Shared→Prop}{s:Shared}{t b:Addr}{ws:List Value}{Q:Value→Shared→Prop}(ht:IsTup s.heap t #[])(hb:IsTup s.heap b ws.toArray)
  (h1:Q (.ref b) s):wpAny (model P w) A (binaryOp .Add (.ref t) (.ref b)) Q E s:=by
 obtain⟨⟨cls,dd,data,sl⟩,ho,hc,n,hd⟩:=id ht
 obtain⟨⟨cls2,dd2,data2,sl2⟩,ho2,hc2,n2,hd2⟩:=id hb
 simp only at hc hd hc2 hd2
 subst hc hd hc2 hd2
 exact concat_meets ⟨_,ho,rfl⟩ ⟨_,ho2,rfl⟩ noFill_tuple_add seq_tuple_add PySem.F.slot_tuple_add PySem.F.entry_tuple_add (PySem.F.args_tuple_add_2 _ _)
   (tuple_addW0 t b #[] ws.toArray n n2 dd dd2 sl sl2 rfl) ⟨ho,ho2,h1⟩
def rCatU (K:PySem.W.Frag):R2:=fun x y H Q=>∃a b xs ys,x=.ref a∧y=.ref b∧SqT K H a xs∧SqT K H b ys∧ys≠[]∧xs.length+ys.length≤sizeLine∧
 (xs=[]→Q (.ref b) H)∧(xs≠[]→∀p,H p=none→Q (.ref p) (upd H p (.tup (xs++ys))))
theorem op_catU:OpR X (binaryOp .Add) (rCatU X.K):=by
 intro pins s σ H x y v u Q I rx ry h
 obtain⟨a,b,xs,ys,rfl,rfl,ha,hb,hy,hz,q1,q2⟩:=h
 by_cases hx:xs=[]
 ·
  subst hx
  cases rx
  cases ry
  obtain⟨its,r1,p1,_⟩:=I.tuple ha
  obtain⟨its2,r2,p2,_⟩:=I.tuple hb
  have e:its=[]:=r1.nil_iff.mpr rfl
  subst e
  exact cat_tup0 p1 p2 ⟨.ref b,H,I,rfl,q1 rfl⟩
 ·
  exact op_catT pins s σ H _ _ _ _ Q I rx ry ⟨a,b,xs,ys,rfl,rfl,ha,hb,hx,hz,fun z=>absurd z hy,fun _=>q2 hx⟩
end
end L2
namespace Rb
def Am:Nat→(Nat→Rat)→Rat
 | 0,_=>0
 | n+1,f=>Am n f+f n
theorem Ar {n:Nat}{f g:Nat→Rat}(h:∀i,i<n→f i=g i):Am n f=Am n g:=by
 induction n with
 | zero=>rfl
 |
  succ n ih=>
  simp only[Am]
  rw[ih (fun i hi=>h i (by omega)),h n (by omega)]
theorem sumN_zero {n:Nat}{f:Nat→Rat}(h:∀i,i<n→f i=0):Am n f=0:=by
 induction n with
 | zero=>rfl
 |
  succ n ih=>
  simp only[Am]
  rw[ih (fun i hi=>h i (by omega)),h n (by omega)];grind
theorem sumN_add (n:Nat)(f g:Nat→Rat):Am n (fun i=>f i+g i)=Am n f+Am n g:=by
 induction n with
 | zero=>simp only[Am];grind
 | succ n ih=>simp only[Am];rw[ih];grind
theorem sumN_sub (n:Nat)(f g:Nat→Rat):Am n (fun i=>f i-g i)=Am n f-Am n g:=by
 induction n with
 | zero=>simp only[Am];grind
 | succ n ih=>simp only[Am];rw[ih];grind
theorem sumN_neg (n:Nat)(f:Nat→Rat):Am n (fun i=>-f i)=-Am n f:=by
 induction n with
 | zero=>simp only[Am];grind
 | succ n ih=>simp only[Am];rw[ih];grind
theorem sumN_mul (n:Nat)(a:Rat)(f:Nat→Rat):Am n (fun i=>a*f i)=a*Am n f:=by
 induction n with
 | zero=>simp only[Am];grind
 | succ n ih=>simp only[Am];rw[ih];grind
theorem sumN_mulr (n:Nat)(a:Rat)(f:Nat→Rat):Am n (fun i=>f i*a)=Am n f*a:=by
 induction n with
 | zero=>simp only[Am];grind
 | succ n ih=>simp only[Am];rw[ih];grind
theorem sumN_swap (n m:Nat)(f:Nat→Nat→Rat):
  Am n (fun i=>Am m (fun j=>f i j))=Am m (fun j=>Am n (fun i=>f i j)):=by
 induction n with
 | zero=>simp only[Am];rw[sumN_zero (fun _ _=>rfl)]
 | succ n ih=>simp only[Am];rw[ih,←sumN_add]
theorem sumN_nonneg {n:Nat}{f:Nat→Rat}(h:∀i,i<n→0≤f i):0≤Am n f:=by
 induction n with
 | zero=>simp only[Am];grind
 |
  succ n ih=>
  simp only[Am]
  have:=ih (fun i hi=>h i (by omega))
  have:=h n (by omega)
  grind
theorem sumN_le {n:Nat}{f g:Nat→Rat}(h:∀i,i<n→f i≤g i):Am n f≤Am n g:=by
 induction n with
 | zero=>simp only[Am];grind
 |
  succ n ih=>
  simp only[Am]
  have:=ih (fun i hi=>h i (by omega))
  have:=h n (by omega)
  grind
theorem sumN_eq_zero {n:Nat}{f:Nat→Rat}(h:∀i,i<n→0≤f i)(hs:Am n f≤0):
  ∀i,i<n→f i=0:=by
 induction n with
 | zero=>intro i hi;omega
 |
  succ n ih=>
  simp only[Am] at hs
  have h0:=sumN_nonneg (n:=n) (f:=f) (fun i hi=>h i (by omega))
  have h1:=h n (by omega)
  intro i hi
  by_cases e:i=n
  ·
   subst e;grind
  ·
   exact ih (fun i hi=>h i (by omega)) (by grind) i (by omega)
theorem sumN_ite (n k:Nat)(a:Rat)(h:k<n):Am n (fun i=>if i=k then a else 0)=a:=by
 induction n with
 | zero=>omega
 |
  succ n ih=>
  simp only[Am]
  by_cases e:n=k
  ·
   subst e
   rw[sumN_zero (fun i hi=>if_neg (by omega)),if_pos rfl];grind
  ·
   rw[ih (by omega),if_neg e];grind
theorem sumN_single {n:Nat}{f:Nat→Rat}(k:Nat)(h:k<n)(z:∀i,i<n→i≠k→f i=0):Am n f=f k:=by
 have:Am n f=Am n (fun i=>if i=k then f k else 0):=by
  apply Ar
  intro i hi
  by_cases e:i=k
  ·
   subst e;rw[if_pos rfl]
  ·
   rw[if_neg e,z i hi e]
 rw[this,sumN_ite n k _ h]
def skip (j c:Nat):Nat:=if c<j then c else c+1
theorem sumN_skip (n j:Nat)(hj:j≤n)(f:Nat→Rat):
  Am n (fun l=>f (skip j l))=Am (n+1) f-f j:=by
 induction n with
 |
  zero=>
  have:j=0:=by omega
  subst this;simp only[Am];grind
 |
  succ n ih=>
  by_cases e:j=n+1
  ·
   subst e
   have:Am (n+1) (fun l=>f (skip (n+1) l))=Am (n+1) f:=
    Ar (fun i hi=>by simp only[skip];rw[if_pos hi])
   rw[this];simp only[Am];grind
  ·
   have h1:=ih (by omega)
   have h2:f (skip j n)=f (n+1):=by simp only[skip];rw[if_neg (by omega)]
   simp only[Am] at h1 ⊢
   rw[h1,h2];grind
theorem skip_skip (j k c:Nat)(h:k<j):skip j (skip k c)=skip k (skip (j-1) c):=by
 unfold skip;repeat' split
 all_goals omega
def sgn (k:Nat):Rat:=if k%2=0 then 1 else -1
theorem sgn_succ (k:Nat):sgn (k+1)=-sgn k:=by
 simp only[sgn];split<;>split<;>first | omega | grind
theorem sgn_double (k:Nat):sgn (k+k)=1:=by
 simp only[sgn];rw[if_pos (by omega)]
def det:Nat→(Nat→Nat→Rat)→Rat
 | 0,_=>1
 | n+1,A=>Am (n+1) (fun j=>sgn (n+j)*det n (fun r c=>A r (skip j c))*A n j)
theorem det_congr:∀{n:Nat} {A B:Nat→Nat→Rat},(∀r c,r<n→c<n→A r c=B r c)→det n A=det n B
 | 0,_,_,_=>rfl
 |
  n+1,A,B,h=>by
  simp only[det]
  apply Ar
  intro j hj
  rw[h n j (by omega) hj,det_congr (A:=fun r c=>A r (skip j c)) (B:=fun r c=>B r (skip j c))]
  intro r c hr hc
  apply h r _ (by omega)
  simp only[skip];split<;>omega
def two (n:Nat)(A:Nat→Nat→Rat)(j k:Nat):Rat:=
 if k<j then sgn (1+j+k)*det n (fun r c=>A r (skip j (skip k c)))
 else if j<k then-(sgn (1+j+k)*det n (fun r c=>A r (skip k (skip j c)))) else 0
theorem two_anti (n:Nat)(A:Nat→Nat→Rat)(j k:Nat):two n A j k=-two n A k j:=by
 simp only[two]
 by_cases h:k<j
 ·
  rw[if_pos h,if_neg (by omega),if_pos h,show 1+k+j=1+j+k by omega];grind
 ·
  by_cases h2:j<k
  ·
   rw[if_neg h,if_pos h2,if_pos h2,show 1+k+j=1+j+k by omega]
  ·
   rw[if_neg h,if_neg h2,if_neg h2,if_neg h];grind
theorem det_two (n:Nat)(A:Nat→Nat→Rat):
  det (n+2) A=Am (n+2) (fun j=>Am (n+2) (fun k=>two n A j k*A (n+1) j*A n k)):=by
 show Am (n+2) _=_
 apply Ar
 intro j hj
 let g:Nat→Rat:=fun k=>(if k<j then sgn (n+k)*det n (fun r c=>A r (skip j (skip k c))) else
    -sgn (n+k)*det n (fun r c=>A r (skip k (skip j c))))*A n k
 have hd:det (n+1) (fun r c=>A r (skip j c))=Am (n+1) (fun l=>g (skip j l)):=by
  show Am (n+1) _=_
  apply Ar
  intro l hl
  by_cases e:l<j
  ·
   have:skip j l=l:=by simp only[skip];rw[if_pos e]
   simp only[g,this,if_pos e]
  ·
   have:skip j l=l+1:=by simp only[skip];rw[if_neg e]
   simp only[g,this]
   rw[if_neg (by omega),show n+(l+1)=n+l+1 by omega,sgn_succ]
   have e2:(fun r c=>A r (skip j (skip l c)))=fun r c=>A r (skip (l+1) (skip j c)):=by
    funext r c
    rw[skip_skip (l+1) j c (by omega)];rfl
   rw[e2];grind
 rw[hd,sumN_skip (n+1) j (by omega) g]
 rw[Rat.mul_assoc,Rat.mul_comm _ (A (n+1) j),←Rat.mul_assoc,Rat.mul_comm (sgn _) _]
 have:∀(x y z:Rat),x*(y-z)=x*y-x*z:=by intro x y z;grind
 rw[this,←sumN_mul]
 have hj0:Am (n+2) (fun k=>two n A j k*A (n+1) j*A n k)=
   Am (n+1+1) (fun k=>A (n+1) j*sgn (n+1+j)*((if k<j then sgn (n+k)*det n (fun r c=>A r (skip j (skip k c))) else
    -sgn (n+k)*det n (fun r c=>A r (skip k (skip j c))))*A n k)-(if k=j then A (n+1) j*sgn (n+1+j)*((-sgn (n+j)*det n (fun r c=>A r (skip j (skip j c))))*A n j) else 0)):=by
  apply Ar
  intro k hk
  have hs:∀x,sgn (n+1+j)*(sgn (n+x))=sgn (1+j+x):=by
   intro x
   simp only[sgn];split<;>split<;>split<;>first | omega | grind
  simp only[two]
  by_cases h:k<j
  ·
   rw[if_pos h,if_pos h,if_neg (by omega)]
   have:=hs k;grind
  ·
   by_cases h2:j<k
   ·
    rw[if_neg h,if_pos h2,if_neg h,if_neg (by omega)]
    have:=hs k;grind
   ·
    have:k=j:=by omega
    subst this
    rw[if_neg h,if_neg h,if_neg h,if_pos rfl];grind
 rw[hj0,sumN_sub,sumN_ite _ _ _ (by omega)]
 simp only[g]
 rw[if_neg (Nat.lt_irrefl j)]
theorem det_swap (n:Nat)(A B:Nat→Nat→Rat)(h:∀r c,r<n→A r c=B r c)
  (h1:∀c,A n c=B (n+1) c)(h2:∀c,A (n+1) c=B n c):det (n+2) A=-det (n+2) B:=by
 rw[det_two,det_two,sumN_swap,←sumN_neg]
 apply Ar;intro j hj
 rw[←sumN_neg]
 apply Ar;intro k hk
 have e:two n A k j=two n B k j:=by
  simp only[two]
  rw[det_congr (A:=fun r c=>A r (skip k (skip j c))) (B:=fun r c=>B r (skip k (skip j c))) (fun r c hr _=>h r _ hr),
   det_congr (A:=fun r c=>A r (skip j (skip k c))) (B:=fun r c=>B r (skip j (skip k c))) (fun r c hr _=>h r _ hr)]
 rw[e,two_anti n B k j,h1,h2];grind
theorem det_same_last (n:Nat)(A:Nat→Nat→Rat)(h:∀c,c<n+2→A n c=A (n+1) c):det (n+2) A=0:=by
 let B:Nat→Nat→Rat:=fun r c=>if r=n+1 then A n c else A r c
 have e:det (n+2) A=det (n+2) B:=by
  apply det_congr
  intro r c hr hc
  show A r c=if r=n+1 then A n c else A r c
  split
  ·
   rename_i q;rw[q,h c hc]
  ·
   rfl
 have:=det_swap n B B (fun _ _ _=>rfl) (fun c=>by simp[B]) (fun c=>by simp[B])
 rw[e];grind
theorem det_same:∀(n:Nat) (A:Nat→Nat→Rat) (i k:Nat),i<k→k<n→(∀c,c<n→A i c=A k c)→det n A=0
 | 0,_,_,_,_,hk,_=>by omega
 | 1,_,_,_,hi,hk,_=>by omega
 |
  n+2,A,i,k,hi,hk,h=>by
  have inner:∀(B:Nat→Nat→Rat) (i k:Nat),i<k→k<n+1→(∀c,c<n+2→B i c=B k c)→det (n+2) B=0:=by
   intro B i k hi hk h
   show Am (n+2) _=0
   apply sumN_zero
   intro j hj
   rw[det_same (n+1) (fun r c=>B r (skip j c)) i k hi hk (fun c hc=>h _ (by simp only[skip];split<;>omega))]
   grind
  by_cases e:k<n+1
  ·
   exact inner A i k hi e h
  ·
   have ek:k=n+1:=by omega
   subst ek
   by_cases ei:i=n
   ·
    subst ei;exact det_same_last _ A h
   ·
    let B:Nat→Nat→Rat:=fun r c=>if r=n then A (n+1) c else if r=n+1 then A n c else A r c
    have:=det_swap n A B (fun r c hr=>by simp only[B];rw[if_neg (by omega),if_neg (by omega)])
     (fun c=>by simp[B]) (fun c=>by simp[B])
    rw[this,inner B i n (by omega) (by omega) (fun c hc=>by show (if i=n then _ else if i=n+1 then _ else _)=(if n=n then _ else _);rw[if_neg (by omega),if_neg (by omega),if_pos rfl];exact h c hc)]
    grind
theorem det_isInt:∀(n:Nat) (A:Nat→Nat→Rat),(∀r c,∃z:Int,A r c=z)→∃z:Int,det n A=z
 | 0,_,_=>⟨1,by simp only[det];rfl⟩
 |
  n+1,A,h=>by
  have key:∀m,∃z:Int,Am m (fun j=>sgn (n+j)*det n (fun r c=>A r (skip j c))*A n j)=z:=by
   intro m
   induction m with
   | zero=>exact⟨0,rfl⟩
   |
    succ m ih=>
    obtain⟨z,hz⟩:=ih
    obtain⟨d,hd⟩:=det_isInt n (fun r c=>A r (skip m c)) (fun r c=>h r _)
    obtain⟨a,ha⟩:=h n m
    obtain⟨s,hs⟩:∃s:Int,sgn (n+m)=s:=by
     simp only[sgn];split
     ·
      exact⟨1,rfl⟩
     ·
      exact⟨-1,rfl⟩
    refine⟨z+s*d*a,?_⟩
    simp only[Am]
    rw[hz,hd,ha,hs,Rat.intCast_add,Rat.intCast_mul,Rat.intCast_mul]
  exact key (n+1)
end Rb
namespace Rb
def red (O:Nat→Nat→Rat):Nat→(Nat→Rat)→(Nat→Rat)
 | 0,p=>p
 | k+1,p=>fun c=>red O k p c-red O k p k/red O k (O k) k*red O k (O k) c
def piv (O:Nat→Nat→Rat)(k:Nat):Rat:=red O k (O k) k
theorem red_congr {O Q:Nat→Nat→Rat}:∀{k:Nat},(∀i,i<k→O i=Q i)→∀p,red O k p=red Q k p
 | 0,_,_=>rfl
 |
  k+1,h,p=>by
  funext c
  simp only[red]
  rw[red_congr (k:=k) (fun i hi=>h i (by omega)) p,red_congr (k:=k) (fun i hi=>h i (by omega)) (O k),h k (by omega)]
theorem red_zero {O:Nat→Nat→Rat}:∀{k:Nat},(∀i,i<k→piv O i≠0)→∀p c,c<k→red O k p c=0
 | 0,_,_,_,hc=>by omega
 |
  k+1,h,p,c,hc=>by
  simp only[red]
  have h0:=h k (by omega)
  simp only[piv] at h0
  by_cases e:c=k
  ·
   subst e
   rw[Rat.div_mul_cancel h0];grind
  ·
   rw[red_zero (fun i hi=>h i (by omega)) p c (by omega),red_zero (fun i hi=>h i (by omega)) (O k) c (by omega)]
   grind
def brd (O:Nat→Nat→Rat)(k:Nat)(p:Nat→Rat)(c:Nat):Nat→Nat→Rat:=
 fun i j=>(if i<k then O i else p) (if j<k then j else c)
def minor (O:Nat→Nat→Rat)(k:Nat)(p:Nat→Rat)(c:Nat):Rat:=det (k+1) (brd O k p c)
def cofc (O:Nat→Nat→Rat)(k c j:Nat):Rat:=
 sgn (k+j)*det k (fun r x=>O r (if skip j x<k then skip j x else c))
theorem minor_eq (O:Nat→Nat→Rat)(k:Nat)(p:Nat→Rat)(c:Nat):
  minor O k p c=Am (k+1) (fun j=>cofc O k c j*p (if j<k then j else c)):=by
 simp only[minor,det]
 apply Ar
 intro j hj
 have e:det k (fun r x=>brd O k p c r (skip j x))=det k (fun r x=>O r (if skip j x<k then skip j x else c)):=
  det_congr (fun r x hr _=>by simp only[brd];rw[if_pos hr])
 rw[e]
 simp only[brd,cofc]
 rw[if_neg (Nat.lt_irrefl k)]
theorem minor_lin (O:Nat→Nat→Rat)(k c:Nat)(p q:Nat→Rat)(t:Rat):
  minor O k (fun x=>p x-t*q x) c=minor O k p c-t*minor O k q c:=by
 rw[minor_eq,minor_eq,minor_eq,←sumN_mul,←sumN_sub]
 apply Ar
 intro j hj
 grind
theorem minor_same (O:Nat→Nat→Rat)(k c i:Nat)(h:i<k):minor O k (O i) c=0:=by
 apply det_same (k+1) _ i k h (by omega)
 intro x hx
 simp only[brd]
 rw[if_pos h,if_neg (Nat.lt_irrefl k)]
theorem minor_red (O:Nat→Nat→Rat)(k c:Nat):∀(i:Nat),i≤k→∀p,minor O k (red O i p) c=minor O k p c
 | 0,_,_=>rfl
 |
  i+1,h,p=>by
  have e:red O (i+1) p=fun x=>red O i p x-red O i p i/red O i (O i) i*red O i (O i) x:=rfl
  rw[e,minor_lin,minor_red O k c i (by omega),minor_red O k c i (by omega),minor_same O k c i (by omega)]
  grind
theorem cofc_last (O:Nat→Nat→Rat)(k c:Nat):cofc O k c k=det k O:=by
 simp only[cofc]
 rw[sgn_double,det_congr (B:=O)]
 ·
  grind
 ·
  intro r x hr hx
  have:skip k x=x:=by simp only[skip];rw[if_pos hx]
  simp only[this]
  rw[if_pos hx]
theorem minor_det (O:Nat→Nat→Rat)(k:Nat)(h:∀i,i<k→piv O i≠0)(p:Nat→Rat)(c:Nat):
  minor O k p c=det k O*red O k p c:=by
 rw[←minor_red O k c k (Nat.le_refl k) p,minor_eq,sumN_single k (by omega)]
 ·
  rw[if_neg (Nat.lt_irrefl k),cofc_last]
 ·
  intro i hi ne
  rw[if_pos (show i<k by omega),red_zero h p i (by omega)];grind
theorem det_minor (O:Nat→Nat→Rat)(k:Nat):det (k+1) O=minor O k (O k) k:=by
 apply det_congr
 intro r c hr hc
 simp only[brd]
 by_cases e:r<k
 ·
  rw[if_pos e]
  by_cases e2:c<k
  ·
   rw[if_pos e2]
  ·
   rw[if_neg e2,show c=k by omega]
 ·
  rw[if_neg e,show r=k by omega]
  by_cases e2:c<k
  ·
   rw[if_pos e2]
  ·
   rw[if_neg e2,show c=k by omega]
theorem det_step (O:Nat→Nat→Rat)(k:Nat)(h:∀i,i<k→piv O i≠0):det (k+1) O=det k O*piv O k:=by
 rw[det_minor,minor_det O k h];rfl
theorem det_ne (O:Nat→Nat→Rat):∀(k:Nat),(∀i,i<k→piv O i≠0)→det k O≠0
 | 0,_=>by simp only[det];decide
 |
  k+1,h=>by
  rw[det_step O k (fun i hi=>h i (by omega))]
  have h1:=det_ne O k (fun i hi=>h i (by omega))
  have h2:=h k (by omega)
  intro e
  rcases Rat.mul_eq_zero.mp e with e | e
  ·
   exact h1 e
  ·
   exact h2 e
theorem minor_isInt (O:Nat→Nat→Rat)(k c:Nat)(p:Nat→Rat)(h:∀r c,∃z:Int,O r c=z)(hp:∀c,∃z:Int,p c=z):
  ∃z:Int,minor O k p c=z:=by
 apply det_isInt
 intro r x
 simp only[brd]
 split
 ·
  exact h _ _
 ·
  exact hp _
theorem turn (O:Nat→Nat→Rat)(k c:Nat)(p:Nat→Rat)(hO:∀r c,∃z:Int,O r c=z)(hp:∀c,∃z:Int,p c=z)
  (h:∀i,i<k+1→piv O i≠0)(prev pk qc qk pc:Int)(e0:(prev:Rat)=det k O)
  (e1:(pk:Rat)=det k O*red O k (O k) k)(e2:(qc:Rat)=det k O*red O k p c)
  (e3:(qk:Rat)=det k O*red O k p k)(e4:(pc:Rat)=det k O*red O k (O k) c):
  ∃z:Int,pk*qc-qk*pc=prev*z∧(z:Rat)=det (k+1) O*red O (k+1) p c∧prev≠0:=by
 obtain⟨z,hz⟩:=minor_isInt O (k+1) c p hO hp
 rw[minor_det O (k+1) h] at hz
 refine⟨z,?_,hz.symm,?_⟩
 ·
  apply Rat.intCast_inj.mp
  rw[Rat.intCast_sub,Rat.intCast_mul,Rat.intCast_mul,Rat.intCast_mul,←hz,e0,e1,e2,e3,e4,det_step O k (fun i hi=>h i (by omega))]
  have h0:=h k (by omega)
  simp only[piv,red] at h0 ⊢
  have:red O k p k/red O k (O k) k*red O k (O k) k=red O k p k:=Rat.div_mul_cancel h0
  grind
 ·
  intro e
  have:=det_ne O k (fun i hi=>h i (by omega))
  rw[←e0,e] at this
  exact this rfl
theorem back (O:Nat→Nat→Rat)(n:Nat)(X:Nat→Rat)
  (hx:∀i,i<n→Am n (fun c=>red O i (O i) c*X c)=red O i (O i) n):
  ∀r,r<n→Am n (fun c=>O r c*X c)=O r n:=by
 intro r hr
 have key:∀k,k≤r→Am n (fun c=>red O (r-k) (O r) c*X c)=red O (r-k) (O r) n:=by
  intro k
  induction k with
  | zero=>intro _;exact hx r hr
  |
   succ k ih=>
   intro hk
   have h1:=ih (by omega)
   have e:r-k=(r-(k+1))+1:=by omega
   rw[e] at h1
   have h2:=hx (r-(k+1)) (by omega)
   simp only[red] at h1
   generalize r-(k+1)=q at *
   generalize ht:red O q (O r) q/red O q (O q) q=t at *
   have:Am n (fun c=>(red O q (O r) c-t*red O q (O q) c)*X c)=
     Am n (fun c=>red O q (O r) c*X c)-t*Am n (fun c=>red O q (O q) c*X c):=by
    rw[←sumN_mul,←sumN_sub]
    apply Ar
    intro i hi;grind
   rw[this,h2] at h1
   grind
 have:=key r (Nat.le_refl r)
 rw[Nat.sub_self] at this
 exact this
theorem found (O:Nat→Nat→Rat)(n k:Nat)(hk:k<n)(h:∀i,i<k→piv O i≠0)
  (hz:∀r,k≤r→r<n→red O k (O r) k=0)
  (triv:∀y:Nat→Rat,(∀r,r<n→Am n (fun c=>O r c*y c)=0)→∀c,c<n→y c=0):False:=by
 have hy:=triv (fun c=>if c≤k then cofc O k k c else 0) (by
  intro r hr
  have e:Am n (fun c=>O r c*(if c≤k then cofc O k k c else 0))=minor O k (O r) k:=by
   rw[minor_eq]
   have:∀m,Am (k+1+m) (fun c=>O r c*(if c≤k then cofc O k k c else 0))=
     Am (k+1) (fun j=>cofc O k k j*O r (if j<k then j else k)):=by
    intro m
    induction m with
    |
     zero=>
     apply Ar
     intro i hi
     rw[if_pos (show i≤k by omega)]
     by_cases e:i<k
     ·
      rw[if_pos e];grind
     ·
      rw[if_neg e,show i=k by omega];grind
    |
     succ m ih=>
     rw[show k+1+(m+1)=(k+1+m)+1 by omega]
     simp only[Am] at ih ⊢
     rw[ih,if_neg (by omega)];grind
   have h2:=this (n-(k+1))
   rw[show k+1+(n-(k+1))=n by omega] at h2
   exact h2
  rw[e]
  by_cases e:r<k
  ·
   exact minor_same O k k r e
  ·
   rw[minor_det O k h,hz r (by omega) hr];grind) k hk
 replace hy:(if k≤k then cofc O k k k else 0)=0:=hy
 rw[if_pos (Nat.le_refl k),cofc_last] at hy
 exact det_ne O k h hy
end Rb
namespace Rb
structure Chain (n ref:Nat)(R:Nat→Nat→Rat)(D:Rat):Prop where
 pos:0<D
 ref_lt:ref<n
 nonneg:∀i j,i<n→j<n→0≤R i j
 total:∀i,i<n→Am n (fun j=>R i j)=D
 leads:∃(rank:Nat→Nat) (B:Nat),(∀i,i<n→rank i≤B)∧
  ∀i,i<n→i≠ref→∃j,j<n∧0<R i j∧rank i<rank j
def part (v:Nat→Rat)(i:Nat):Rat:=if v i≤0 then 0 else v i
theorem part_nonneg (v:Nat→Rat)(i:Nat):0≤part v i:=by
 simp only[part];split<;>grind
theorem part_ge (v:Nat→Rat)(i:Nat):v i≤part v i:=by
 simp only[part];split<;>grind
theorem mul_nn {a b:Rat}(ha:0≤a)(hb:0≤b):0≤a*b:=Rat.mul_nonneg ha hb
theorem mul_le_r {a b c:Rat}(h:a≤b)(hc:0≤c):a*c≤b*c:=Rat.mul_le_mul_of_nonneg_right h hc
theorem maxp {n ref:Nat}{R:Nat→Nat→Rat}{D:Rat}(C:Chain n ref R D)(v:Nat→Rat)(href:v ref≤0)
  (hv:∀j,j<n→v j≤0∨D*v j≤Am n (fun i=>v i*R i j)):∀i,i<n→v i≤0:=by
 have ineq:∀j,j<n→D*part v j≤Am n (fun i=>part v i*R i j):=by
  intro j hj
  by_cases e:v j≤0
  ·
   have e0:part v j=0:=by simp only[part];rw[if_pos e]
   rw[e0,Rat.mul_zero]
   exact sumN_nonneg (fun i hi=>mul_nn (part_nonneg v i) (C.nonneg i j hi hj))
  ·
   have e0:part v j=v j:=by simp only[part];rw[if_neg e]
   rw[e0]
   have h1:D*v j≤Am n (fun i=>v i*R i j):=by
    rcases hv j hj with h | h
    ·
     exact absurd h e
    ·
     exact h
   have h2:Am n (fun i=>v i*R i j)≤Am n (fun i=>part v i*R i j):=
    sumN_le (fun i hi=>mul_le_r (part_ge v i) (C.nonneg i j hi hj))
   grind
 have tot:Am n (fun j=>Am n (fun i=>part v i*R i j)-D*part v j)=0:=by
  rw[sumN_sub,sumN_swap,sumN_mul]
  have:Am n (fun i=>Am n (fun j=>part v i*R i j))=Am n (fun i=>D*part v i):=by
   apply Ar
   intro i hi
   rw[sumN_mul,C.total i hi];grind
  rw[this,sumN_mul];grind
 have eqs:=sumN_eq_zero (f:=fun j=>Am n (fun i=>part v i*R i j)-D*part v j)
  (fun j hj=>by have:=ineq j hj;show 0≤Am n (fun i=>part v i*R i j)-D*part v j;grind)
  (by rw[tot];grind)
 obtain⟨rank,B,hB,lead⟩:=C.leads
 have all0:∀m i,i<n→B-rank i≤m→part v i=0:=by
  intro m
  induction m with
  |
   zero=>
   intro i hi hm
   by_cases e:i=ref
   ·
    subst e;simp only[part];rw[if_pos href]
   ·
    obtain⟨j,hj,_,hr⟩:=lead i hi e
    have:=hB j hj
    omega
  |
   succ m ih=>
   intro i hi hm
   by_cases e:i=ref
   ·
    subst e;simp only[part];rw[if_pos href]
   ·
    obtain⟨j,hj,hp,hr⟩:=lead i hi e
    have hb:=hB j hj
    have h0:=ih j hj (by omega)
    have h1:Am n (fun i=>part v i*R i j)=0:=by
     have:=eqs j hj
     simp only[h0] at this
     grind
    have h2:=sumN_eq_zero (f:=fun i=>part v i*R i j) (fun i hi=>mul_nn (part_nonneg v i) (C.nonneg i j hi hj)) (by rw[h1];grind) i hi
    rcases Rat.mul_eq_zero.mp h2 with h | h
    ·
     exact h
    ·
     rw[h] at hp;exact absurd hp (by grind)
 intro i hi
 have h:=all0 _ i hi (Nat.le_refl _)
 have:=part_ge v i
 grind
theorem uniq {n ref:Nat}{R:Nat→Nat→Rat}{D:Rat}(C:Chain n ref R D)(v:Nat→Rat)
  (hv:∀j,j<n→D*v j=Am n (fun i=>v i*R i j))(hs:Am n v=0):∀i,i<n→v i=0:=by
 by_cases e:v ref≤0
 ·
  have h:=maxp C v e (fun j hj=>.inr (by rw[hv j hj];grind))
  have:=sumN_eq_zero (f:=fun i=>-v i) (fun i hi=>by have:=h i hi;show 0≤-v i;grind) (by rw[sumN_neg,hs];grind)
  intro i hi
  have:=this i hi
  grind
 ·
  have h:=maxp C (fun i=>-v i) (by show-v ref≤0;grind) (fun j hj=>.inr (by
   have e1:Am n (fun i=>-v i*R i j)=-Am n (fun i=>v i*R i j):=by
    rw[←sumN_neg];apply Ar;intro i hi;grind
   rw[e1,←hv j hj];grind))
  have:=sumN_eq_zero (f:=fun i=>v i) (fun i hi=>by have:=h i hi;grind) (by show Am n v≤0;rw[hs];grind)
  exact this
theorem follows {n ref:Nat}{R:Nat→Nat→Rat}{D:Rat}(C:Chain n ref R D)(v:Nat→Rat)(k:Nat)(hk:k<n)
  (hv:∀j,j<n→j≠k→D*v j=Am n (fun i=>v i*R i j)):∀j,j<n→D*v j=Am n (fun i=>v i*R i j):=by
 have tot:Am n (fun j=>Am n (fun i=>v i*R i j)-D*v j)=0:=by
  rw[sumN_sub,sumN_swap,sumN_mul]
  have:Am n (fun i=>Am n (fun j=>v i*R i j))=Am n (fun i=>D*v i):=by
   apply Ar
   intro i hi
   rw[sumN_mul,C.total i hi];grind
  rw[this,sumN_mul];grind
 rw[sumN_single k hk (fun j hj ne=>by show _-_=(0:Rat);rw[hv j hj ne];grind)] at tot
 intro j hj
 by_cases e:j=k
 ·
  subst e;grind
 ·
  exact hv j hj e
def bal (R:Nat→Nat→Rat)(D:Rat)(j i:Nat):Rat:=(if i=j then D else 0)-R i j
theorem bal_sum {n:Nat}(R:Nat→Nat→Rat)(D:Rat)(v:Nat→Rat)(j:Nat)(hj:j<n):
  Am n (fun i=>bal R D j i*v i)=D*v j-Am n (fun i=>v i*R i j):=by
 have:Am n (fun i=>bal R D j i*v i)=Am n (fun i=>(if i=j then D*v j else 0)-v i*R i j):=by
  apply Ar
  intro i hi
  simp only[bal]
  by_cases e:i=j
  ·
   subst e;rw[if_pos rfl,if_pos rfl];grind
  ·
   rw[if_neg e,if_neg e];grind
 rw[this,sumN_sub,sumN_ite n j _ hj]
theorem sumN_cut (n k:Nat)(f:Nat→Rat)(h:k≤n):Am n (fun i=>if i<k then f i else 0)=Am k f:=by
 induction n with
 | zero=>rw[show k=0 by omega];rfl
 |
  succ n ih=>
  by_cases e:k=n+1
  ·
   subst e
   exact Ar (fun i hi=>if_pos hi)
  ·
   simp only[Am]
   rw[ih (by omega),if_neg (by omega)];grind
theorem lead_pos {n ref:Nat}{R:Nat→Nat→Rat}{D:Rat}(C:Chain n ref R D)(hl:ref+1=n):
  ∀k,k<n→0<det k (bal R D):=by
 intro k
 induction k with
 | zero=>intro _;simp only[det];decide
 |
  succ k ih=>
  intro hk
  have h0:=ih (by omega)
  apply Classical.byContradiction
  intro hneg
  have hle:det (k+1) (bal R D)≤0:=by grind
  let v:Nat→Rat:=fun i=>if i<k+1 then cofc (bal R D) k k i else 0
  have hm:∀j,Am n (fun i=>bal R D j i*v i)=minor (bal R D) k (bal R D j) k:=by
   intro j
   rw[minor_eq,←sumN_cut n (k+1) _ (by omega)]
   apply Ar
   intro i hi
   simp only[v]
   by_cases e:i<k+1
   ·
    rw[if_pos e,if_pos e]
    by_cases e2:i<k
    ·
     rw[if_pos e2];grind
    ·
     rw[if_neg e2,show i=k by omega];grind
   ·
    rw[if_neg e,if_neg e];grind
  have h:=maxp C v (by simp only[v];rw[if_neg (by omega)];grind) (by
   intro j hj
   by_cases e:j<k
   ·
    right
    have h1:=bal_sum R D v j hj
    rw[hm j,minor_same _ k k j e] at h1
    grind
   ·
    by_cases e2:j=k
    ·
     right
     subst e2
     have h1:=bal_sum R D v j hj
     rw[hm j,←det_minor] at h1
     grind
    ·
     left
     simp only[v];rw[if_neg (by omega)];grind) k (by omega)
  simp only[v] at h
  rw[if_pos (by omega),cofc_last] at h
  grind
theorem often {n ref:Nat}{R:Nat→Nat→Rat}{D:Rat}(C:Chain n ref R D)(hl:ref+1=n):
  let w:=cofc (bal R D) ref ref
  (∀j,j<n→D*w j=Am n (fun i=>w i*R i j))∧0<Am n w∧
  ∀p:Nat→Rat,minor (bal R D) ref p ref=Am n (fun i=>w i*p i):=by
 intro w
 have hmin:∀p:Nat→Rat,minor (bal R D) ref p ref=Am n (fun i=>w i*p i):=by
  intro p
  rw[minor_eq,hl]
  apply Ar
  intro i hi
  by_cases e:i<ref
  ·
   rw[if_pos e]
  ·
   rw[if_neg e,show i=ref by omega]
 have stat:∀j,j<n→D*w j=Am n (fun i=>w i*R i j):=by
  apply follows C w ref (by omega)
  intro j hj ne
  have h1:=bal_sum R D w j hj
  have h2:=hmin (bal R D j)
  rw[minor_same _ ref ref j (by omega)] at h2
  have h3:Am n (fun i=>bal R D j i*w i)=Am n (fun i=>w i*bal R D j i):=
   Ar (fun i _=>Rat.mul_comm _ _)
  rw[h3,←h2] at h1
  grind
 have wr:0<w ref:=by
  show 0<cofc (bal R D) ref ref ref
  rw[cofc_last];exact lead_pos C hl ref (by omega)
 have nn:=maxp C (fun i=>-w i) (by show-w ref≤0;grind) (fun j hj=>.inr (by
   have e1:Am n (fun i=>-w i*R i j)=-Am n (fun i=>w i*R i j):=by
    rw[←sumN_neg];apply Ar;intro i hi;grind
   rw[e1,←stat j hj];grind))
 refine⟨stat,?_,hmin⟩
 apply Classical.byContradiction
 intro h
 have:=sumN_eq_zero (f:=w) (fun i hi=>by have:=nn i hi;grind) (by grind) ref (by omega)
 grind
end Rb
namespace Rb
abbrev Fr:=Int×Nat
def val (f:Fr):Rat:=(f.1:Rat)/((f.2:Nat):Rat)
def Canon (f:Fr):Prop:=0<f.2∧Nat.gcd f.1.natAbs f.2=1
theorem cast_ne {n:Nat}(h:0<n):((n:Nat):Rat)≠0:=by
 intro e
 have:n=0:=Rat.natCast_inj.mp (by rw[e];rfl)
 omega
theorem val_num {f:Fr}(h:Canon f):(val f).num=f.1∧(val f).den=f.2:=by
 let q:Rat:=⟨f.1,f.2,by have:=h.1;omega,h.2⟩
 have e:val f=q:=(Rat.mkRat_eq_div f.1 f.2).symm.trans (Rat.mkRat_self q)
 rw[e];exact⟨rfl,rfl⟩
theorem canon_inj {f g:Fr}(hf:Canon f)(hg:Canon g)(h:val f=val g):f=g:=by
 have a:=val_num hf
 have b:=val_num hg
 rw[h] at a
 exact Prod.ext (a.1.symm.trans b.1) (a.2.symm.trans b.2)
theorem low_canon (x:Int)(n:Nat)(h:0<n):Canon (Su111.low x n):=by
 have hg:0<Nat.gcd x.natAbs n:=Nat.gcd_pos_of_pos_right _ h
 unfold Su111.low
 rw[if_neg (by omega)]
 refine⟨Nat.div_pos (Nat.le_of_dvd h (Nat.gcd_dvd_right _ _)) hg,?_⟩
 show Nat.gcd (x/Int.ofNat (Nat.gcd x.natAbs n)).natAbs (n/Nat.gcd x.natAbs n)=1
 have hd:(Int.ofNat (Nat.gcd x.natAbs n)) ∣ x:=Int.ofNat_dvd_left.mpr (Nat.gcd_dvd_left _ _)
 rw[Int.natAbs_ediv_of_dvd hd]
 exact Nat.coprime_div_gcd_div_gcd hg
theorem low_val (x:Int)(n:Nat)(h:0<n):val (Su111.low x n)=(x:Rat)/((n:Nat):Rat):=by
 have hg:0<Nat.gcd x.natAbs n:=Nat.gcd_pos_of_pos_right _ h
 unfold Su111.low
 rw[if_neg (by omega)]
 generalize hgg:Nat.gcd x.natAbs n=g at *
 have hd:((g:Nat):Int) ∣ x:=by rw[←hgg];exact Int.ofNat_dvd_left.mpr (Nat.gcd_dvd_left _ _)
 have hd2:g ∣ n:=by rw[←hgg];exact Nat.gcd_dvd_right _ _
 obtain⟨a,ha⟩:=hd
 obtain⟨b,hb⟩:=hd2
 have hb0:0<b:=by
  rcases Nat.eq_zero_or_pos b with e | e
  ·
   rw[e] at hb;omega
  ·
   exact e
 show ((x/Int.ofNat g:Int):Rat)/(((n/g:Nat)):Rat)=_
 have e1:x/Int.ofNat g=a:=by rw[ha];exact Int.mul_ediv_cancel_left _ (by omega)
 have e2:n/g=b:=by rw[hb];exact Nat.mul_div_cancel_left _ hg
 rw[e1,e2,ha,hb,Rat.intCast_mul,Rat.natCast_mul]
 have h1:=cast_ne hg
 have h2:=cast_ne hb0
 have h3:(((g:Nat):Int):Rat)=((g:Nat):Rat):=rfl
 rw[h3]
 grind
theorem plus_val {a b:Fr}(ha:0<a.2)(hb:0<b.2):val (Su111.plus a b)=val a+val b:=by
 unfold Su111.plus
 rw[low_val _ _ (Nat.mul_pos ha hb)]
 have h1:=cast_ne ha
 have h2:=cast_ne hb
 have c:∀n:Nat,((Int.ofNat n:Int):Rat)=((n:Nat):Rat):=fun _=>rfl
 rw[Rat.intCast_add,Rat.intCast_mul,Rat.intCast_mul,Rat.natCast_mul,c,c]
 simp only[val]
 grind
theorem plus_canon {a b:Fr}(ha:0<a.2)(hb:0<b.2):Canon (Su111.plus a b):=
 low_canon _ _ (Nat.mul_pos ha hb)
theorem times_val {a:Fr}(x:Int){n:Nat}(ha:0<a.2)(hn:0<n):val (Su111.times a x n)=val a*((x:Rat)/((n:Nat):Rat)):=by
 unfold Su111.times
 rw[low_val _ _ (Nat.mul_pos ha hn)]
 have h1:=cast_ne ha
 have h2:=cast_ne hn
 rw[Rat.intCast_mul,Rat.natCast_mul]
 simp only[val]
 grind
theorem times_canon {a:Fr}(x:Int){n:Nat}(ha:0<a.2)(hn:0<n):Canon (Su111.times a x n):=
 low_canon _ _ (Nat.mul_pos ha hn)
def sumL:List Rat→Rat
 | []=>0
 | x::l=>x+sumL l
theorem foldl_plus:∀(l:List Fr) (a:Fr),Canon a→(∀f∈l,0<f.2)→
  Canon (l.foldl Su111.plus a)∧val (l.foldl Su111.plus a)=val a+sumL (l.map val)
 | [],a,ha,_=>⟨ha,by simp only[List.foldl,List.map,sumL];grind⟩
 |
  f::l,a,ha,h=>by
  have hf:=h f (by simp)
  have ih:=foldl_plus l (Su111.plus a f) (plus_canon ha.1 hf) (fun g hg=>h g (by simp[hg]))
  refine⟨ih.1,?_⟩
  simp only[List.foldl,List.map,sumL]
  rw[ih.2,plus_val ha.1 hf];grind
theorem zero_canon:Canon (0,1):=⟨by decide,by decide⟩
theorem zero_val:val (0,1)=0:=by simp only[val];grind
theorem less_val {a b:Fr}(ha:0<a.2)(hb:0<b.2):Su111.less a b=decide (val a<val b):=by
 unfold Su111.less
 apply decide_eq_decide.mpr
 have h1:=cast_ne ha
 have h2:=cast_ne hb
 have p1:(0:Rat)<((a.2:Nat):Rat):=by
  have:((0:Nat):Rat)<((a.2:Nat):Rat):=Rat.natCast_lt_natCast.mpr ha
  exact this
 have p2:(0:Rat)<((b.2:Nat):Rat):=by
  have:((0:Nat):Rat)<((b.2:Nat):Rat):=Rat.natCast_lt_natCast.mpr hb
  exact this
 have c:∀n:Nat,((Int.ofNat n:Int):Rat)=((n:Nat):Rat):=fun _=>rfl
 rw[←Rat.intCast_lt_intCast,Rat.intCast_mul,Rat.intCast_mul,c,c]
 simp only[val]
 rw[Rat.div_lt_iff p1]
 have e:(b.1:Rat)/((b.2:Nat):Rat)*((a.2:Nat):Rat)=((b.1:Rat)*((a.2:Nat):Rat))/((b.2:Nat):Rat):=by grind
 rw[e,Rat.lt_div_iff p2]
end Rb
namespace Rb
open Su111
def ent (m:Array (Array Int))(r c:Nat):Int:=(m.getD r #[]).getD c 0
structure Shape (n:Nat)(m:Array (Array Int)):Prop where
 size:m.size=n
 rows:∀r,r<n→(m.getD r #[]).size=n+1
structure Inv (n:Nat)(A:Nat→Nat→Rat)(k:Nat)(prev:Int)(m:Array (Array Int))(O:Nat→Nat→Rat):Prop where
 shape:Shape n m
 isInt:∀r c,∃z:Int,O r c=z
 has:∀r,r<n→∃q,q<n∧O q=A r
 pivs:∀i,i<k→piv O i≠0
 prv:(prev:Rat)=det k O
 low:∀r,k≤r→r<n→∀c,c≤n→(ent m r c:Rat)=det k O*red O k (O r) c
 top:∀i,i<k→i<n→∀c,c≤n→(ent m i c:Rat)=det i O*red O i (O i) c
theorem getD_set (m:Array (Array Int))(k i:Nat)(v:Array Int)(hk:k<m.size):
  (m.set! k v).getD i #[]=if i=k then v else m.getD i #[]:=by
 by_cases e:i=k
 ·
  subst e
  rw[if_pos rfl]
  simp[Array.getD_eq_getD_getElem?,Array.getElem?_setIfInBounds,hk]
 ·
  rw[if_neg e]
  simp only[Array.set!_eq_setIfInBounds,Array.getD_eq_getD_getElem?,Array.getElem?_setIfInBounds]
  rw[if_neg (by omega)]
theorem swapTo_some (m:Array (Array Int))(n k r:Nat)(hs:m.size=n)(hk:k<n)(hr:r<n)
  (h:((List.range m.size).drop k).find? (fun r=>(m.getD r #[]).getD k 0!=0)=some r):
  (swapTo m k).size=n∧∀i,(swapTo m k).getD i #[]=m.getD (if i=r then k else if i=k then r else i) #[]:=by
 unfold swapTo
 rw[h]
 simp only
 constructor
 ·
  simp[hs]
 ·
  intro i
  rw[getD_set _ _ _ _ (by simp[hs];omega),getD_set _ _ _ _ (by omega)]
  by_cases e:i=r
  ·
   rw[if_pos e,if_pos e]
  ·
   rw[if_neg e,if_neg e]
   by_cases e2:i=k
   ·
    rw[if_pos e2,if_pos e2]
   ·
    rw[if_neg e2,if_neg e2]
theorem getD_map_range (n i:Nat)(f:Nat→Array Int)(h:i<n):((Array.range n).map f).getD i #[]=f i:=by
 simp[Array.getD_eq_getD_getElem?,h]
theorem getD_map_range0 (n i:Nat)(f:Nat→Int)(h:i<n):((Array.range n).map f).getD i 0=f i:=by
 simp[Array.getD_eq_getD_getElem?,h]
theorem find_some {n k:Nat}{p:Nat→Bool}(h:∃r,k≤r∧r<n∧p r=true):
  ∃r,((List.range n).drop k).find? p=some r∧k≤r∧r<n∧p r=true:=by
 cases e:((List.range n).drop k).find? p with
 |
  none=>
  obtain⟨r,h1,h2,h3⟩:=h
  rw[List.find?_eq_none] at e
  have hm:r∈(List.range n).drop k:=by
   rw[List.mem_iff_getElem]
   refine⟨r-k,by simp;omega,by simp;omega⟩
  exact absurd h3 (e r hm)
 |
  some r=>
  refine⟨r,rfl,?_,?_,List.find?_some e⟩
  ·
   have hm:=List.mem_of_find?_eq_some e
   rw[List.mem_iff_getElem] at hm
   obtain⟨i,hi,he⟩:=hm
   simp at he;omega
  ·
   have hm:=List.mem_of_find?_eq_some e
   have:=List.mem_of_mem_drop hm
   exact List.mem_range.mp this
def Triv (n:Nat)(A:Nat→Nat→Rat):Prop:=
 ∀y:Nat→Rat,(∀r,r<n→Am n (fun c=>A r c*y c)=0)→∀c,c<n→y c=0
theorem Inv.triv {n:Nat}{A:Nat→Nat→Rat}{k:Nat}{prev:Int}{m:Array (Array Int)}{O:Nat→Nat→Rat}
  (I:Inv n A k prev m O)(T:Triv n A):Triv n O:=by
 intro y hy
 apply T
 intro r hr
 obtain⟨q,hq,e⟩:=I.has r hr
 rw[←e];exact hy q hq
theorem inv_swap {n:Nat}{A:Nat→Nat→Rat}{k:Nat}{prev:Int}{m:Array (Array Int)}{O:Nat→Nat→Rat}
  (I:Inv n A k prev m O)(T:Triv n A)(hk:k<n):
  ∃Q,Inv n A k prev (swapTo m k) Q∧piv Q k≠0:=by
 have hex:∃r,k≤r∧r<n∧(fun r=>(m.getD r #[]).getD k 0!=0) r=true:=by
  apply Classical.byContradiction
  intro hn
  refine found O n k hk I.pivs ?_ (I.triv T)
  intro r h1 h2
  have h3:ent m r k=0:=by
   apply Classical.byContradiction
   intro h4
   exact hn ⟨r,h1,h2,by simpa [ent] using h4⟩
  have h5:=I.low r h1 h2 k (by omega)
  rw[h3] at h5
  rcases Rat.mul_eq_zero.mp h5.symm with h | h
  ·
   exact absurd h (det_ne O k I.pivs)
  ·
   exact h
 obtain⟨r,h1,h2,h3,h4⟩:=find_some hex
 have hsz:=I.shape.size
 obtain⟨s1,s2⟩:=swapTo_some m n k r hsz hk h3 (by rw[hsz];exact h1)
 let sw:Nat→Nat:=fun i=>if i=r then k else if i=k then r else i
 have swlt:∀i,i<n→sw i<n:=by intro i hi;simp only[sw];split<;>(try split)<;>omega
 have swge:∀i,k≤i→k≤sw i:=by intro i hi;simp only[sw];split<;>(try split)<;>omega
 have swsm:∀i,i<k→sw i=i:=by intro i hi;simp only[sw];rw[if_neg (by omega),if_neg (by omega)]
 have swsw:∀i,sw (sw i)=i:=by
  intro i;simp only[sw];repeat' split
  all_goals omega
 have se:∀i c,ent (swapTo m k) i c=ent m (sw i) c:=by intro i c;simp only[ent,s2,sw]
 let Q:Nat→Nat→Rat:=fun i=>O (sw i)
 have cg:∀j,j≤k→∀i,i<j→O i=Q i:=by intro j hj i hi;simp only[Q];rw[swsm i (by omega)]
 have rd:∀j,j≤k→∀p,red O j p=red Q j p:=fun j hj p=>red_congr (cg j hj) p
 have dt:∀j,j≤k→det j O=det j Q:=fun j hj=>det_congr (fun i c hi _=>by rw[cg j hj i hi])
 refine⟨Q,⟨⟨s1,?_⟩,fun r c=>I.isInt _ c,?_,?_,?_,?_,?_⟩,?_⟩
 ·
  intro i hi
  rw[s2 i]
  exact I.shape.rows _ (swlt i hi)
 ·
  intro i hi
  obtain⟨q,hq,e⟩:=I.has i hi
  exact⟨sw q,swlt q hq,by simp only[Q];rw[swsw,e]⟩
 ·
  intro i hi
  have:=I.pivs i hi
  simp only[piv] at this ⊢
  rw[←rd i (by omega),←cg k (Nat.le_refl k) i hi];exact this
 ·
  rw[←dt k (Nat.le_refl k)];exact I.prv
 ·
  intro i h5 h6 c hc
  rw[se,I.low (sw i) (swge i h5) (swlt i h6) c hc,dt k (Nat.le_refl k),rd k (Nat.le_refl k)]
 ·
  intro i h5 h6 c hc
  rw[se,swsm i h5,I.top i h5 h6 c hc,dt i (by omega),rd i (by omega),cg k (Nat.le_refl k) i h5]
 ·
  intro h0
  have h5:=I.low r h2 h3 k (by omega)
  simp only[piv,Q] at h0
  have:sw k=r:=by simp only[sw];split<;>simp_all
  rw[this,←rd k (Nat.le_refl k)] at h0
  rw[h0] at h5
  have h6:ent m r k=0:=Rat.intCast_inj.mp (by rw[h5];grind)
  simp[ent] at h6
  simp[h6] at h4
theorem inv_step {n:Nat}{A:Nat→Nat→Rat}{k:Nat}{prev:Int}{m:Array (Array Int)}{O:Nat→Nat→Rat}
  (I:Inv n A k prev m O)(hp:piv O k≠0)(hk:k<n):
  Inv n A (k+1) (ent m k k) (stepOne m k prev) O:=by
 have hsz:=I.shape.size
 have pv:∀i,i<k+1→piv O i≠0:=by
  intro i hi
  by_cases e:i=k
  ·
   rw[e];exact hp
  ·
   exact I.pivs i (by omega)
 have row1:∀i,i<n→i≤k→(stepOne m k prev).getD i #[]=m.getD i #[]:=by
  intro i hi hik
  unfold stepOne
  rw[getD_map_range _ _ _ (by omega),if_pos hik]
 have ent2:∀i c,i<n→k<i→c≤n→ent (stepOne m k prev) i c=(ent m k k*ent m i c-ent m i k*ent m k c)/prev:=by
  intro i c hi hik hc
  unfold stepOne
  simp only[ent]
  rw[getD_map_range _ _ _ (by omega),if_neg (by omega),getD_map_range0 _ _ _ (by rw[I.shape.rows i hi];omega)]
 refine⟨⟨?_,?_⟩,I.isInt,I.has,pv,?_,?_,?_⟩
 ·
  unfold stepOne;simp[hsz]
 ·
  intro i hi
  by_cases e:i≤k
  ·
   rw[row1 i hi e];exact I.shape.rows i hi
  ·
   unfold stepOne
   rw[getD_map_range _ _ _ (by omega),if_neg e]
   simp only[Array.size_map,Array.size_range]
   exact I.shape.rows i hi
 ·
  rw[I.low k (Nat.le_refl k) hk k (by omega),det_step O k I.pivs];rfl
 ·
  intro i h1 h2 c hc
  obtain⟨z,hz,hzz,hne⟩:=turn O k c (O i) I.isInt (I.isInt i) pv prev (ent m k k) (ent m i c) (ent m i k) (ent m k c) I.prv
   (I.low k (Nat.le_refl k) hk k (by omega)) (I.low i (by omega) h2 c hc) (I.low i (by omega) h2 k (by omega))
   (I.low k (Nat.le_refl k) hk c hc)
  rw[ent2 i c h2 (by omega) hc,hz,Int.mul_ediv_cancel_left _ hne,hzz]
 ·
  intro i h1 h2 c hc
  have e1:ent (stepOne m k prev) i c=ent m i c:=by simp only[ent];rw[row1 i h2 (by omega)]
  rw[e1]
  by_cases e:i=k
  ·
   subst e;exact I.low i (Nat.le_refl i) h2 c hc
  ·
   exact I.top i (by omega) h2 c hc
theorem inv_tri {n:Nat}{A:Nat→Nat→Rat}(T:Triv n A):∀(cnt k:Nat) (prev:Int) (m:Array (Array Int)) (O:Nat→Nat→Rat),
  Inv n A k prev m O→k+cnt<n→∃p Q,Inv n A (k+cnt) p (triangle cnt k prev m) Q
 | 0,k,prev,m,O,I,_=>⟨prev,O,I⟩
 |
  cnt+1,k,prev,m,O,I,h=>by
  obtain⟨Q,IQ,hp⟩:=inv_swap I T (by omega)
  have I2:=inv_step IQ hp (by omega)
  obtain⟨p,Q2,I3⟩:=inv_tri T cnt (k+1) _ _ Q I2 (by omega)
  refine⟨p,Q2,?_⟩
  rw[show k+(cnt+1)=k+1+cnt by omega]
  exact I3
theorem tri {n:Nat}(m:Array (Array Int))(S:Shape n m)(hn:0<n)(T:Triv n (fun r c=>(ent m r c:Rat))):
  ∃O:Nat→Nat→Rat,(triangle (m.size-1) 0 1 m).size=n∧(∀r,r<n→∃q,q<n∧O q=fun c=>(ent m r c:Rat))∧
   (∀i,i<n→piv O i≠0)∧
   ∀i,i<n→∀c,c≤n→(ent (triangle (m.size-1) 0 1 m) i c:Rat)=det i O*red O i (O i) c:=by
 have I0:Inv n (fun r c=>(ent m r c:Rat)) 0 1 m (fun r c=>(ent m r c:Rat)):=
  ⟨S,fun r c=>⟨_,rfl⟩,fun r hr=>⟨r,hr,rfl⟩,fun i hi=>by omega,by simp only[det];rfl,
   fun r _ _ c _=>by simp only[det,red];grind,fun i hi=>by omega⟩
 obtain⟨p,O,I⟩:=inv_tri T (m.size-1) 0 1 m _ I0 (by rw[S.size];omega)
 rw[S.size,show 0+(n-1)=n-1 by omega] at I
 rw[S.size]
 have hl:piv O (n-1)≠0:=by
  intro h0
  refine found O n (n-1) (by omega) I.pivs ?_ (I.triv T)
  intro r h1 h2
  have:r=n-1:=by omega
  subst this;exact h0
 refine⟨O,I.shape.size,I.has,?_,?_⟩
 ·
  intro i hi
  by_cases e:i<n-1
  ·
   exact I.pivs i e
  ·
   rw[show i=n-1 by omega];exact hl
 ·
  intro i hi c hc
  by_cases e:i<n-1
  ·
   exact I.top i e hi c hc
  ·
   have e2:i=n-1:=by omega
   subst e2
   exact I.low (n-1) (Nat.le_refl _) hi c hc
end Rb
namespace Rb
open Su111
theorem sumN_split (a b:Nat)(f:Nat→Rat):Am (a+b) f=Am a f+Am b (fun j=>f (a+j)):=by
 induction b with
 | zero=>simp only[Am,Nat.add_zero];grind
 |
  succ b ih=>
  rw[show a+(b+1)=(a+b)+1 by omega]
  simp only[Am]
  rw[ih];grind
theorem sumL_append (l k:List Rat):sumL (l++k)=sumL l+sumL k:=by
 induction l with
 | nil=>simp only[List.nil_append,sumL];grind
 | cons x l ih=>simp only[List.cons_append,sumL];rw[ih];grind
theorem sumL_range (n:Nat)(f:Nat→Rat):sumL ((List.range n).map f)=Am n f:=by
 induction n with
 | zero=>rfl
 |
  succ n ih=>
  rw[List.range_succ,List.map_append,sumL_append,ih]
  simp only[List.map,sumL,Am];grind
def X (L:List Su111.Fr)(i:Nat):Rat:=val (L.getD i (0,1))
def solveStep (m:Array (Array Int))(l:List Su111.Fr)(k:Nat):List Su111.Fr:=
 (
  let r:=m.getD k #[]
  let s:=((List.range l.length).map fun j=>times (l.getD j (0,1)) (r.getD (k+1+j) 0) 1).foldl plus (0,1)
  let t:=plus (r.getD m.size 0,1) (-s.1,s.2)
  let d:=r.getD k 0
  if d<0 then low (-t.1) (t.2*d.natAbs) else low t.1 (t.2*d.natAbs))::l
theorem solve_eq (m:Array (Array Int)):solve m=(List.range m.size).reverse.foldl (solveStep m) []:=rfl
theorem neg_val (f:Su111.Fr):val (-f.1,f.2)=-val f:=by
 simp only[val]
 rw[Rat.intCast_neg];grind
theorem getD_pos (l:List Su111.Fr)(h:∀f∈l,0<f.2)(j:Nat):0<(l.getD j (0,1)).2:=by
 rw[List.getD_eq_getElem?_getD]
 cases e:l[j]? with
 | none=>exact (by decide:0<1)
 | some x=>exact h x (List.mem_of_getElem? e)
theorem step_val (m:Array (Array Int))(l:List Su111.Fr)(k:Nat)(h:∀f∈l,0<f.2)(hd:ent m k k≠0):
  ∃x,solveStep m l k=x::l∧0<x.2∧
   (ent m k k:Rat)*val x+Am l.length (fun j=>(ent m k (k+1+j):Rat)*X l j)=(ent m k m.size:Rat):=by
 refine⟨_,rfl,?_⟩
 have hs:=foldl_plus ((List.range l.length).map fun j=>times (l.getD j (0,1)) ((m.getD k #[]).getD (k+1+j) 0) 1) (0,1) zero_canon (by
  intro f hf
  rw[List.mem_map] at hf
  obtain⟨j,_,e⟩:=hf
  rw[←e]
  exact (times_canon _ (getD_pos l h j) (by decide)).1)
 rw[List.map_map] at hs
 simp only
 generalize List.foldl plus (0,1) ((List.range l.length).map fun j=>times (l.getD j (0,1)) ((m.getD k #[]).getD (k+1+j) 0) 1)=s at hs ⊢
 obtain⟨hc,hv⟩:=hs
 have hv2:val s=Am l.length (fun j=>(ent m k (k+1+j):Rat)*X l j):=by
  rw[hv,zero_val,sumL_range,Rat.zero_add]
  apply Ar
  intro j hj
  simp only[Function.comp]
  rw[times_val _ (getD_pos l h j) (by decide)]
  simp only[X,ent]
  have:((1:Nat):Rat)=1:=rfl
  rw[this];grind
 have htv:=plus_val (a:=((m.getD k #[]).getD m.size 0,1)) (b:=(-s.1,s.2)) Nat.one_pos hc.1
 have htc:=plus_canon (a:=((m.getD k #[]).getD m.size 0,1)) (b:=(-s.1,s.2)) Nat.one_pos hc.1
 generalize plus ((m.getD k #[]).getD m.size 0,1) (-s.1,s.2)=t at htv htc ⊢
 rw[neg_val] at htv
 have e1:val ((m.getD k #[]).getD m.size 0,1)=(ent m k m.size:Rat):=by
  simp only[val,ent]
  have:((1:Nat):Rat)=1:=rfl
  rw[this];grind
 rw[e1] at htv
 show 0<(if ent m k k<0 then _ else _:Su111.Fr).2∧_*val (if ent m k k<0 then _ else _)+_=_
 have hab:0<(ent m k k).natAbs:=by omega
 have hab2:=cast_ne hab
 have ht2:=cast_ne htc.1
 have tv:val t=(t.1:Rat)/((t.2:Nat):Rat):=rfl
 split
 ·
  rename_i hneg
  refine⟨(low_canon _ _ (Nat.mul_pos htc.1 hab)).1,?_⟩
  have hc0:(((ent m k k).natAbs:Nat):Rat)=-(ent m k k:Rat):=by
   have:(((ent m k k).natAbs:Nat):Int)=-ent m k k:=by omega
   have h2:((((ent m k k).natAbs:Nat):Int):Rat)=((-ent m k k:Int):Rat):=by rw[this]
   rw[Rat.intCast_neg] at h2
   exact h2
  show (ent m k k:Rat)*val (low (-t.1) (t.2*(ent m k k).natAbs))+_=_
  rw[low_val _ _ (Nat.mul_pos htc.1 hab),Rat.natCast_mul,Rat.intCast_neg,hc0,←hv2]
  rw[hc0] at hab2
  have:(ent m k k:Rat)*(-(t.1:Rat)/(((t.2:Nat):Rat)*-(ent m k k:Rat)))=(t.1:Rat)/((t.2:Nat):Rat):=by grind
  rw[this,←tv,htv];grind
 ·
  rename_i hneg
  refine⟨(low_canon _ _ (Nat.mul_pos htc.1 hab)).1,?_⟩
  have hc0:(((ent m k k).natAbs:Nat):Rat)=(ent m k k:Rat):=by
   have:(((ent m k k).natAbs:Nat):Int)=ent m k k:=by omega
   have h2:((((ent m k k).natAbs:Nat):Int):Rat)=((ent m k k:Int):Rat):=by rw[this]
   exact h2
  show (ent m k k:Rat)*val (low (t.1) (t.2*(ent m k k).natAbs))+_=_
  rw[low_val _ _ (Nat.mul_pos htc.1 hab),Rat.natCast_mul,hc0,←hv2]
  rw[hc0] at hab2
  have:(ent m k k:Rat)*((t.1:Rat)/(((t.2:Nat):Rat)*(ent m k k:Rat)))=(t.1:Rat)/((t.2:Nat):Rat):=by grind
  rw[this,←tv,htv];grind
structure Sol (m:Array (Array Int))(n k:Nat)(l:List Su111.Fr):Prop where
 len:l.length+k=n
 pos:∀f∈l,0<f.2
 eqs:∀i,k≤i→i<n→(ent m i i:Rat)*X l (i-k)+Am (n-(i+1)) (fun j=>(ent m i (i+1+j):Rat)*X l (i+1+j-k))=(ent m i n:Rat)
theorem sol_fold (m:Array (Array Int))(n:Nat)(hs:m.size=n)(hd:∀i,i<n→ent m i i≠0):
  ∀(k:Nat) (l:List Su111.Fr),Sol m n k l→Sol m n 0 ((List.range k).reverse.foldl (solveStep m) l)
 | 0,_,h=>h
 |
  k+1,l,h=>by
  rw[List.range_succ,List.reverse_append,List.reverse_singleton,List.singleton_append,List.foldl_cons]
  have hl:=h.len
  obtain⟨x,hx,hx2,hx3⟩:=step_val m l k h.pos (hd k (by omega))
  apply sol_fold m n hs hd k
  rw[hx]
  refine⟨by simp;omega,?_,?_⟩
  ·
   intro f hf
   rcases List.mem_cons.mp hf with e | e
   ·
    rw[e];exact hx2
   ·
    exact h.pos f e
  ·
   intro i h1 h2
   have sh:∀j,k+1≤j→X (x::l) (j-k)=X l (j-(k+1)):=by
    intro j hj
    simp only[X]
    rw[show j-k=(j-(k+1))+1 by omega,List.getD_cons_succ]
   by_cases e:i=k
   ·
    subst e
    rw[←hs,←hx3,Nat.sub_self,show m.size-(i+1)=l.length by omega]
    congr 1
    apply Ar
    intro j hj
    rw[sh _ (by omega),show i+1+j-(i+1)=j by omega]
   ·
    rw[←h.eqs i (by omega) h2,sh i (by omega)]
    congr 1
    apply Ar
    intro j hj
    rw[sh _ (by omega)]
theorem solved (m:Array (Array Int))(n:Nat)(S:Shape n m)(hn:0<n)(T:Triv n (fun r c=>(ent m r c:Rat))):
  let L:=solve (triangle (m.size-1) 0 1 m)
  L.length=n∧(∀f∈L,0<f.2)∧∀r,r<n→Am n (fun c=>(ent m r c:Rat)*X L c)=(ent m r n:Rat):=by
 intro L
 obtain⟨O,hs,has,hp,ht⟩:=tri m S hn T
 have hd:∀i,i<n→ent (triangle (m.size-1) 0 1 m) i i≠0:=by
  intro i hi h0
  have h1:=ht i hi i (by omega)
  rw[h0] at h1
  rcases Rat.mul_eq_zero.mp h1.symm with h | h
  ·
   exact det_ne O i (fun j hj=>hp j (by omega)) h
  ·
   exact hp i hi h
 have sol:Sol (triangle (m.size-1) 0 1 m) n 0 L:=by
  show Sol _ n 0 (solve _)
  rw[solve_eq,hs]
  apply sol_fold _ n hs hd
  exact⟨by simp,fun f hf=>by simp at hf,fun i h1 h2=>by omega⟩
 refine⟨by have:=sol.len;omega,sol.pos,?_⟩
 have key:=back O n (X L) (by
  intro i hi
  have h1:=sol.eqs i (by omega) hi
  rw[ht i hi i (by omega),ht i hi n (Nat.le_refl n)] at h1
  have hdn:=det_ne O i (fun j hj=>hp j (by omega))
  have h2:Am n (fun c=>red O i (O i) c*X L c)=red O i (O i) i*X L i+Am (n-(i+1)) (fun j=>red O i (O i) (i+1+j)*X L (i+1+j)):=by
   have:n=(i+1)+(n-(i+1)):=by omega
   conv=>lhs;rw[this]
   rw[sumN_split]
   simp only[Am]
   rw[sumN_zero (f:=fun c=>red O i (O i) c*X L c) (n:=i) (fun c hc=>by show _*_=(0:Rat);rw[red_zero (fun j hj=>hp j (by omega)) (O i) c hc];grind)]
   grind
  have h3:Am (n-(i+1)) (fun j=>(ent (triangle (m.size-1) 0 1 m) i (i+1+j):Rat)*X L (i+1+j-0))=
    det i O*Am (n-(i+1)) (fun j=>red O i (O i) (i+1+j)*X L (i+1+j)):=by
   rw[←sumN_mul]
   apply Ar
   intro j hj
   rw[ht i hi _ (by omega)];grind
  rw[h3,show i-0=i by omega] at h1
  rw[h2]
  have h4:det i O*(red O i (O i) i*X L i+Am (n-(i+1)) (fun j=>red O i (O i) (i+1+j)*X L (i+1+j)))=det i O*red O i (O i) n:=by grind
  grind)
 intro r hr
 obtain⟨q,hq,e⟩:=has r hr
 have:=key q hq
 rw[e] at this
 exact this
end Rb
namespace Rb
open Su111
def trans (a:Abs)(s:List Nat):List (List Nat×Nat):=(ups a.m).map fun u=>(a.next s u,a.weight u)
def P (a:Abs)(s t:List Nat):Nat:=(((trans a s).filter fun x=>x.1==t).map fun x=>x.2).sum
def ow (a:Abs)(s:List Nat):Nat:=(((ups a.m).filter fun u=>(a.works s u).getD (a.m-1) false).map a.weight).sum
def phi:Nat→List Nat→Nat
 | _,[]=>0
 | k,x::l=>k*x+phi (k+1) l
structure Ord (a:Abs)(T:List (List Nat)):Prop where
 nodup:T.Nodup
 pos:0<T.length
 closed:∀s∈T,∀u∈ups a.m,a.next s u∈T
 up:∀i,i+1<T.length→∃u∈ups a.m,phi 1 (T.getD i [])<phi 1 (a.next (T.getD i []) u)
structure Wts (a:Abs):Prop where
 pos:∀u∈ups a.m,0<a.weight u
 total:((ups a.m).map a.weight).sum=10^a.m
def RT (a:Abs)(T:List (List Nat))(i j:Nat):Rat:=((P a (T.getD i []) (T.getD j []):Nat):Rat)
def DD (a:Abs):Rat:=((10^a.m:Nat):Rat)
theorem sum_cast (l:List Nat):((l.sum:Nat):Rat)=sumL (l.map fun (x:Nat)=>(x:Rat)):=by
 induction l with
 | nil=>rfl
 | cons x l ih=>rw[List.sum_cons,Rat.natCast_add,ih];rfl
theorem sumN_nat (n:Nat)(f:Nat→Nat):Am n (fun i=>((f i:Nat):Rat))=((((List.range n).map f).sum:Nat):Rat):=by
 rw[sum_cast,List.map_map,sumL_range];rfl
theorem sum_by {T:List (List Nat)}(hT:T.Nodup):∀(l:List (List Nat×Nat)),(∀x∈l,x.1∈T)→
  (T.map fun t=>((l.filter fun x=>x.1==t).map fun x=>x.2).sum).sum=(l.map fun x=>x.2).sum
 |
  [],_=>by
  simp only[List.filter_nil,List.map_nil,List.sum_nil]
  clear hT
  rename_i hh
  clear hh
  induction T with
  | nil=>rfl
  | cons t T ih=>rw[List.map_cons,List.sum_cons,ih];rfl
 |
  x::l,h=>by
  have ih:=sum_by hT l (fun y hy=>h y (by simp[hy]))
  rw[List.map_cons,List.sum_cons,←ih]
  have hx:=h x (by simp)
  have key:∀(U:List (List Nat)),U.Nodup→(U.map fun t=>(((x::l).filter fun x=>x.1==t).map fun x=>x.2).sum).sum=
    (if x.1∈U then x.2 else 0)+(U.map fun t=>((l.filter fun x=>x.1==t).map fun x=>x.2).sum).sum:=by
   intro U hU
   induction U with
   | nil=>simp
   |
    cons t U ihU=>
    have hn:=List.nodup_cons.mp hU
    rw[List.map_cons,List.sum_cons,ihU hn.2,List.map_cons,List.sum_cons,List.filter_cons]
    by_cases e:x.1=t
    ·
     have:x.1∉U:=by rw[e];exact hn.1
     have e2:(x.1==t)=true:=by simp[e]
     simp only[e2,if_true,List.map_cons,List.sum_cons]
     rw[if_neg this,if_pos (by simp[e])];omega
    ·
     have e2:(x.1==t)=false:=by simp[e]
     simp only[e2,Bool.false_eq_true,if_false]
     by_cases e3:x.1∈U
     ·
      rw[if_pos e3,if_pos (by simp[e3])];omega
     ·
      rw[if_neg e3,if_neg (by simp[e,e3])];omega
  rw[key T hT,if_pos hx]
theorem map_range_getD {α β:Type}(l:List α)(d:α)(f:α→β):(List.range l.length).map (fun i=>f (l.getD i d))=l.map f:=by
 apply List.ext_getElem
 ·
  simp
 ·
  intro i h1 h2
  simp at h1 h2 ⊢
  rw[List.getElem?_eq_getElem h2];rfl
theorem sumN_list {α:Type}(l:List α)(d:α)(f:α→Rat):Am l.length (fun i=>f (l.getD i d))=sumL (l.map f):=by
 rw[←sumL_range,map_range_getD]
theorem P_pos (a:Abs)(W:Wts a)(s:List Nat)(u:List Nat)(hu:u∈ups a.m):0<P a s (a.next s u):=by
 have hm:(a.next s u,a.weight u)∈(trans a s).filter fun x=>x.1==a.next s u:=by
  rw[List.mem_filter]
  exact⟨List.mem_map.mpr ⟨u,hu,rfl⟩,by simp⟩
 have h2:a.weight u∈((trans a s).filter fun x=>x.1==a.next s u).map fun x=>x.2:=List.mem_map.mpr ⟨_,hm,rfl⟩
 have h3:=W.pos u hu
 unfold P
 generalize (((trans a s).filter fun x=>x.1==a.next s u).map fun x=>x.2)=l at h2
 clear hm
 induction l with
 | nil=>simp at h2
 |
  cons y l ih=>
  rw[List.sum_cons]
  rcases List.mem_cons.mp h2 with e | e
  ·
   omega
  ·
   have:=ih e;omega
theorem nat_pos {n:Nat}(h:0<n):(0:Rat)<((n:Nat):Rat):=by
 have:((0:Nat):Rat)<((n:Nat):Rat):=Rat.natCast_lt_natCast.mpr h
 exact this
theorem nat_nonneg (n:Nat):(0:Rat)≤((n:Nat):Rat):=by
 rcases Nat.eq_zero_or_pos n with e | e
 ·
  rw[e];exact Rat.le_refl
 ·
  exact Rat.le_of_lt (nat_pos e)
theorem getD_mem {α:Type}(l:List α)(d:α)(i:Nat)(h:i<l.length):l.getD i d∈l:=by
 rw[List.getD_eq_getElem?_getD,List.getElem?_eq_getElem h]
 exact List.getElem_mem h
theorem chain (a:Abs)(W:Wts a)(T:List (List Nat))(O:Ord a T):Chain T.length (T.length-1) (RT a T) (DD a):=by
 refine⟨nat_pos (Nat.pow_pos (by decide)),by have:=O.pos;omega,fun i j _ _=>nat_nonneg _,?_,?_⟩
 ·
  intro i hi
  show Am T.length (fun j=>((P a (T.getD i []) (T.getD j []):Nat):Rat))=((10^a.m:Nat):Rat)
  rw[sumN_nat T.length (fun j=>P a (T.getD i []) (T.getD j [])),map_range_getD T [] (P a (T.getD i [])),←W.total]
  congr 1
  have:=sum_by O.nodup (trans a (T.getD i [])) (by
   intro x hx
   obtain⟨u,hu,e⟩:=List.mem_map.mp hx
   rw[←e]
   exact O.closed _ (getD_mem T [] i hi) u hu)
  unfold P
  rw[this]
  simp only[trans,List.map_map]
  rfl
 ·
  refine⟨fun i=>phi 1 (T.getD i []),((List.range T.length).map fun i=>phi 1 (T.getD i [])).sum,?_,?_⟩
  ·
   intro i hi
   have:phi 1 (T.getD i [])∈(List.range T.length).map fun i=>phi 1 (T.getD i []):=
    List.mem_map.mpr ⟨i,List.mem_range.mpr hi,rfl⟩
   generalize (List.range T.length).map (fun i=>phi 1 (T.getD i []))=l at this
   induction l with
   | nil=>simp at this
   |
    cons y l ih=>
    rw[List.sum_cons]
    rcases List.mem_cons.mp this with e | e
    ·
     show phi 1 (T.getD i [])≤_;omega
    ·
     have:=ih e;omega
  ·
   intro i hi ne
   obtain⟨u,hu,hlt⟩:=O.up i (by omega)
   have hc:=O.closed _ (getD_mem T [] i hi) u hu
   obtain⟨j,hj,e⟩:=List.mem_iff_getElem.mp hc
   refine⟨j,hj,?_,?_⟩
   ·
    have e2:T.getD j []=a.next (T.getD i []) u:=by
     rw[List.getD_eq_getElem?_getD,List.getElem?_eq_getElem hj,e];rfl
    simp only[RT,e2]
    exact nat_pos (P_pos a W _ u hu)
   ·
    have e2:T.getD j []=a.next (T.getD i []) u:=by
     rw[List.getD_eq_getElem?_getD,List.getElem?_eq_getElem hj,e];rfl
    simp only[e2];exact hlt
theorem row_eq (a:Abs)(s:List Nat):a.row s=a.states.map (P a s):=rfl
theorem matrix_shape (a:Abs):Shape a.states.length a.matrix:=by
 constructor
 ·
  unfold Abs.matrix;simp
 ·
  intro r hr
  unfold Abs.matrix
  rw[getD_map_range _ _ _ hr];simp
theorem matrix_ent (a:Abs)(j i:Nat)(hj:j<a.states.length)(hi:i≤a.states.length):
  ent a.matrix j i=if j+1=a.states.length then 1 else if i=a.states.length then 0 else
   Int.ofNat (P a (a.states.getD i []) (a.states.getD j []))-(if i=j then Int.ofNat (10^a.m) else 0):=by
 unfold Abs.matrix
 simp only[ent]
 rw[getD_map_range _ _ _ hj,getD_map_range0 _ _ _ (by omega)]
 by_cases e1:j+1=a.states.length
 ·
  rw[if_pos e1,if_pos e1]
 ·
  rw[if_neg e1,if_neg e1]
  by_cases e2:i=a.states.length
  ·
   rw[if_pos e2,if_pos e2]
  ·
   rw[if_neg e2,if_neg e2]
   congr 2
   have hi2:i<a.states.length:=by omega
   have:((a.states.map fun s=>(a.row s).toArray).toArray.getD i #[])=(a.row (a.states.getD i [])).toArray:=by
    simp[Array.getD_eq_getD_getElem?,List.getD_eq_getElem?_getD,hi2]
   rw[this,row_eq]
   simp[Array.getD_eq_getD_getElem?,List.getD_eq_getElem?_getD,hj]
theorem triv_matrix (a:Abs)(W:Wts a)(O:Ord a a.states):Triv a.states.length (fun r c=>(ent a.matrix r c:Rat)):=by
 intro y hy
 have C:=chain a W _ O
 have hn:=O.pos
 apply uniq C y
 ·
  apply follows C y (a.states.length-1) (by omega)
  intro j hj ne
  have h:=hy j hj
  have e:Am a.states.length (fun c=>(ent a.matrix j c:Rat)*y c)=Am a.states.length (fun c=>y c*RT a a.states c j-(if c=j then DD a*y j else 0)):=by
   apply Ar
   intro c hc
   rw[matrix_ent a j c hj (by omega),if_neg (by omega),if_neg (by omega)]
   by_cases e:c=j
   ·
    rw[if_pos e,if_pos e,Rat.intCast_sub,e]
    have e1:((Int.ofNat (P a (a.states.getD j []) (a.states.getD j [])):Int):Rat)=RT a a.states j j:=rfl
    have e2:((Int.ofNat (10^a.m):Int):Rat)=DD a:=rfl
    rw[e1,e2];grind
   ·
    rw[if_neg e,if_neg e,Rat.intCast_sub]
    have e1:((Int.ofNat (P a (a.states.getD c []) (a.states.getD j [])):Int):Rat)=RT a a.states c j:=rfl
    have e2:((0:Int):Rat)=0:=rfl
    rw[e1,e2];grind
  rw[e,sumN_sub,sumN_ite _ _ _ hj] at h
  grind
 ·
  have h:=hy (a.states.length-1) (by omega)
  rw[←h]
  apply Ar
  intro c hc
  show y c=(ent a.matrix (a.states.length-1) c:Rat)*y c
  rw[matrix_ent a _ c (by omega) (by omega),if_pos (by omega)]
  have:((1:Int):Rat)=1:=rfl
  rw[this];grind
theorem long_eqs (a:Abs)(W:Wts a)(O:Ord a a.states):
  a.long.length=a.states.length∧(∀f∈a.long,0<f.2)∧Am a.states.length (X a.long)=1∧
  ∀j,j<a.states.length→DD a*X a.long j=Am a.states.length (fun i=>X a.long i*RT a a.states i j):=by
 obtain⟨h1,h2,h3⟩:=solved a.matrix _ (matrix_shape a) O.pos (triv_matrix a W O)
 have hn:=O.pos
 refine⟨h1,h2,?_,?_⟩
 ·
  have h:=h3 (a.states.length-1) (by omega)
  rw[matrix_ent a _ _ (by omega) (Nat.le_refl _),if_pos (by omega)] at h
  have e:((1:Int):Rat)=1:=rfl
  rw[e] at h
  rw[←h]
  apply Ar
  intro c hc
  rw[matrix_ent a _ c (by omega) (by omega),if_pos (by omega),e]
  show X a.long c=1*X a.long c
  grind
 ·
  apply follows (chain a W _ O) (X a.long) (a.states.length-1) (by omega)
  intro j hj ne
  have h:=h3 j hj
  rw[matrix_ent a j _ hj (Nat.le_refl _),if_neg (by omega),if_pos rfl] at h
  have e:Am a.states.length (fun c=>(ent a.matrix j c:Rat)*X a.long c)=Am a.states.length (fun c=>X a.long c*RT a a.states c j-(if c=j then DD a*X a.long j else 0)):=by
   apply Ar
   intro c hc
   rw[matrix_ent a j c hj (by omega),if_neg (by omega),if_neg (by omega)]
   by_cases e:c=j
   ·
    rw[if_pos e,if_pos e,Rat.intCast_sub,e]
    have e1:((Int.ofNat (P a (a.states.getD j []) (a.states.getD j [])):Int):Rat)=RT a a.states j j:=rfl
    have e2:((Int.ofNat (10^a.m):Int):Rat)=DD a:=rfl
    rw[e1,e2];grind
   ·
    rw[if_neg e,if_neg e,Rat.intCast_sub]
    have e1:((Int.ofNat (P a (a.states.getD c []) (a.states.getD j [])):Int):Rat)=RT a a.states c j:=rfl
    have e2:((0:Int):Rat)=0:=rfl
    rw[e1,e2];grind
  have e0:((0:Int):Rat)=0:=rfl
  rw[e0] at h
  have h':Am a.states.length (fun c=>(ent a.matrix j c:Rat)*X a.long c)=0:=h
  rw[e,sumN_sub,sumN_ite _ _ _ hj] at h'
  grind
end Rb
namespace Rb
open Su111
theorem sumL_perm {l k:List Rat}(h:l.Perm k):sumL l=sumL k:=by
 induction h with
 | nil=>rfl
 | cons x _ ih=>simp only[sumL];rw[ih]
 | swap x y l=>simp only[sumL];grind
 | trans _ _ ih1 ih2=>rw[ih1,ih2]
theorem zip_sum {α β:Type}(g:α×β→Rat)(da:α)(db:β):∀(S:List α) (L:List β),S.length=L.length→
  sumL ((S.zip L).map g)=Am S.length (fun i=>g (S.getD i da,L.getD i db)):=by
 intro S L h
 have:(S.zip L).map g=(List.range S.length).map (fun i=>g (S.getD i da,L.getD i db)):=by
  apply List.ext_getElem
  ·
   simp[h]
  ·
   intro i h1 h2
   simp at h1 h2 ⊢
   rw[List.getElem?_eq_getElem h2,List.getElem?_eq_getElem (h▸h2)];rfl
 rw[this,sumL_range]
theorem often_val (a:Abs)(W:Wts a)(O:Ord a a.states)(f:List Nat→List Nat→Bool):
  Canon (a.often f)∧val (a.often f)=Am a.states.length (fun i=>X a.long i*
   (((((ups a.m).filter fun u=>f (a.states.getD i []) u).map a.weight).sum:Nat):Rat))/DD a:=by
 obtain⟨h1,h2,h3,h4⟩:=long_eqs a W O
 have hp:0<10^a.m:=Nat.pow_pos (by decide)
 have hmem:∀x∈a.states.zip a.long,0<x.2.2:=by
  intro x hx
  exact h2 x.2 (List.of_mem_zip (a:=x.1) (b:=x.2) hx).2
 have hs:=foldl_plus ((a.states.zip a.long).map fun x=>times x.2 (Int.ofNat (((ups a.m).filter fun u=>f x.1 u).map a.weight).sum) (10^a.m)) (0,1) zero_canon (by
  intro q hq
  obtain⟨x,hx,e⟩:=List.mem_map.mp hq
  rw[←e]
  exact (times_canon _ (hmem x hx) hp).1)
 refine⟨hs.1,?_⟩
 show val (List.foldl plus (0,1) _)=_
 rw[hs.2,zero_val,Rat.zero_add,List.map_map]
 have e:(a.states.zip a.long).map (val∘fun x=>times x.2 (Int.ofNat (((ups a.m).filter fun u=>f x.1 u).map a.weight).sum) (10^a.m))=
   (a.states.zip a.long).map (fun x=>val x.2*((((((ups a.m).filter fun u=>f x.1 u).map a.weight).sum:Nat):Rat)/DD a)):=by
  apply List.map_congr_left
  intro x hx
  simp only[Function.comp]
  rw[times_val _ (hmem x hx) hp];rfl
 rw[e,zip_sum _ [] (0,1) _ _ h1.symm]
 have hd:DD a≠0:=cast_ne hp
 have e2:∀n (g h:Nat→Rat),Am n (fun i=>g i*(h i/DD a))=Am n (fun i=>g i*h i)/DD a:=by
  intro n g h
  have:Am n (fun i=>g i*(h i/DD a))=Am n (fun i=>(g i*h i)*(1/DD a)):=by
   apply Ar;intro i hi;grind
  rw[this,sumN_mulr];grind
 exact e2 _ (fun i=>X a.long i) _
theorem idx_getD (T:List (List Nat))(hT:T.Nodup)(i:Nat)(hi:i<T.length):T.idxOf (T.getD i [])=i:=by
 have e:T.getD i []=T[i]:=by rw[List.getD_eq_getElem?_getD,List.getElem?_eq_getElem hi];rfl
 rw[e];exact hT.idxOf_getElem i hi
theorem getD_idx (T:List (List Nat))(s:List Nat)(hs:s∈T):T.getD (T.idxOf s) []=s:=by
 have hl:=List.idxOf_lt_length_of_mem hs
 rw[List.getD_eq_getElem?_getD,List.getElem?_eq_getElem hl]
 exact List.getElem_idxOf hl
theorem rate_by (a:Abs)(W:Wts a)(O:Ord a a.states)(T:List (List Nat))(hT:T.Perm a.states)(w:Nat→Rat)
  (hw:∀j,j<T.length→DD a*w j=Am T.length (fun i=>w i*RT a T i j))(hpos:0<Am T.length w):
  Canon a.out∧val a.out=Am T.length (fun i=>w i*((ow a (T.getD i []):Nat):Rat))/(DD a*Am T.length w):=by
 obtain⟨h1,h2,h3,h4⟩:=long_eqs a W O
 have nd:T.Nodup:=hT.symm.nodup O.nodup
 have hlen:=hT.length_eq
 let ws:List Nat→Rat:=fun s=>w (T.idxOf s)
 have wsT:∀i,i<T.length→w i=ws (T.getD i []):=by
  intro i hi;simp only[ws];rw[idx_getD T nd i hi]
 have conv:∀(F:List Nat→Rat),Am T.length (fun i=>w i*F (T.getD i []))=Am a.states.length (fun i=>ws (a.states.getD i [])*F (a.states.getD i [])):=by
  intro F
  have e1:Am T.length (fun i=>w i*F (T.getD i []))=Am T.length (fun i=>(fun s=>ws s*F s) (T.getD i [])):=
   Ar (fun i hi=>by rw[wsT i hi])
  rw[e1,sumN_list T [] (fun s=>ws s*F s)]
  have e2:=sumN_list a.states [] (fun s=>ws s*F s)
  rw[show Am a.states.length (fun i=>ws (a.states.getD i [])*F (a.states.getD i []))=sumL (a.states.map (fun s=>ws s*F s)) from e2]
  exact sumL_perm (hT.map _)
 have total:Am T.length w=Am a.states.length (fun i=>ws (a.states.getD i [])):=by
  have h:=conv (fun _=>1)
  have e1:Am T.length (fun i=>w i*1)=Am T.length w:=Ar (fun i _=>by grind)
  have e2:Am a.states.length (fun i=>ws (a.states.getD i [])*1)=Am a.states.length (fun i=>ws (a.states.getD i [])):=Ar (fun i _=>by grind)
  rw[e1,e2] at h;exact h
 have stat:∀j,j<a.states.length→DD a*ws (a.states.getD j [])=Am a.states.length (fun i=>ws (a.states.getD i [])*RT a a.states i j):=by
  intro j hj
  have hm:a.states.getD j []∈T:=hT.mem_iff.mpr (getD_mem _ _ _ hj)
  have hl:=List.idxOf_lt_length_of_mem hm
  have h:=hw _ hl
  have h5:=conv (fun s=>((P a s (a.states.getD j []):Nat):Rat))
  have e:Am T.length (fun i=>w i*RT a T i (T.idxOf (a.states.getD j [])))=Am T.length (fun i=>w i*((P a (T.getD i []) (a.states.getD j []):Nat):Rat)):=by
   apply Ar;intro i hi
   simp only[RT];rw[getD_idx T _ hm]
  rw[e,h5] at h
  exact h
 let Wt:=Am T.length w
 have same:∀i,i<a.states.length→ws (a.states.getD i [])-Wt*X a.long i=0:=by
  apply uniq (chain a W _ O) (fun i=>ws (a.states.getD i [])-Wt*X a.long i)
  ·
   intro j hj
   have e:Am a.states.length (fun i=>(ws (a.states.getD i [])-Wt*X a.long i)*RT a a.states i j)=
     Am a.states.length (fun i=>ws (a.states.getD i [])*RT a a.states i j)-Wt*Am a.states.length (fun i=>X a.long i*RT a a.states i j):=by
    rw[←sumN_mul,←sumN_sub];apply Ar;intro i hi;grind
   show DD a*(ws (a.states.getD j [])-Wt*X a.long j)=_
   rw[e,←stat j hj,←h4 j hj];grind
  ·
   rw[sumN_sub,sumN_mul,h3,←total]
   show Wt-Wt*1=0
   grind
 obtain⟨c1,c2⟩:=often_val a W O (fun s u=>(a.works s u).getD (a.m-1) false)
 refine⟨c1,?_⟩
 show val (a.often fun s u=>(a.works s u).getD (a.m-1) false)=_
 rw[c2]
 have h5:=conv (fun s=>((ow a s:Nat):Rat))
 rw[h5]
 have e:Am a.states.length (fun i=>ws (a.states.getD i [])*((ow a (a.states.getD i []):Nat):Rat))=
   Wt*Am a.states.length (fun i=>X a.long i*((ow a (a.states.getD i []):Nat):Rat)):=by
  rw[←sumN_mul]
  apply Ar
  intro i hi
  have:=same i hi
  have e2:ws (a.states.getD i [])=Wt*X a.long i:=by grind
  rw[e2];grind
 rw[e]
 show _=_/(DD a*Wt)
 have hw0:Wt≠0:=by intro h0;have:0<Wt:=hpos;rw[h0] at this;exact absurd this (by decide)
 have hd:DD a≠0:=cast_ne (Nat.pow_pos (by decide))
 show Am a.states.length (fun i=>X a.long i*((ow a (a.states.getD i []):Nat):Rat))/DD a=_
 generalize Am a.states.length (fun i=>X a.long i*((ow a (a.states.getD i []):Nat):Rat))=z
 grind
end Rb
namespace Rb
open Su111
def nx (m:Nat)(r s u:List Nat):List Nat:=Abs.next ⟨List.replicate m 1,r,[]⟩ s u
theorem works_of {a b:Abs}(h:a.m=b.m)(h2:a.rooms=b.rooms)(s u:List Nat):a.works s u=b.works s u:=by
 have h3:a.room=b.room:=by funext i;simp only[Abs.room,h2]
 unfold Abs.works
 rw[h,h3]
theorem next_of {a b:Abs}(h:a.m=b.m)(h2:a.rooms=b.rooms)(s u:List Nat):a.next s u=b.next s u:=by
 simp only[Abs.next,works_of h h2,h2]
theorem next_nx (a:Abs)(s u:List Nat):a.next s u=nx a.m a.rooms s u:=
 next_of (a:=a) (b:=⟨List.replicate a.m 1,a.rooms,[]⟩) (by simp[Abs.m]) rfl s u
def inside:List Nat→List Nat→Bool
 | [],[]=>true
 | r::l,x::s=>Nat.ble x r&&inside l s
 | _,_=>false
theorem inside_mem:∀(r s:List Nat),inside r s=true→s∈states r
 | [],[],_=>by simp[states]
 | [],x::s,h=>by simp[inside] at h
 | r::l,[],h=>by simp[inside] at h
 |
  r::l,x::s,h=>by
  simp only[inside,Bool.and_eq_true] at h
  have ih:=inside_mem l s h.2
  have:=Nat.le_of_ble_eq_true h.1
  simp only[states,List.mem_flatMap,List.mem_map,List.mem_range]
  exact⟨x,by omega,s,ih,rfl⟩
def okOrd (m:Nat)(r:List Nat):Bool:=
 decide (states r).Nodup&&((states r).all fun s=>((ups m).all fun u=>inside r (nx m r s u))&&
  (s==r||(ups m).any fun u=>Nat.blt (phi 1 s) (phi 1 (nx m r s u))))
theorem okOrd_ord {a:Abs}(h:okOrd a.m a.rooms=true)(T:List (List Nat))(hT:T.Perm a.states)
  (hl:T.getLast?=some a.rooms):Ord a T:=by
 simp only[okOrd,Bool.and_eq_true,decide_eq_true_eq,List.all_eq_true,List.any_eq_true,Bool.or_eq_true] at h
 obtain⟨h1,h2⟩:=h
 have nd:T.Nodup:=hT.symm.nodup h1
 have hpos:0<T.length:=by
  rcases Nat.eq_zero_or_pos T.length with e | e
  ·
   rw[List.eq_nil_of_length_eq_zero e] at hl;simp at hl
  ·
   exact e
 have hlast:T.getD (T.length-1) []=a.rooms:=by
  rw[List.getLast?_eq_getElem?] at hl
  rw[List.getD_eq_getElem?_getD,hl];rfl
 refine⟨nd,hpos,?_,?_⟩
 ·
  intro s hs u hu
  rw[next_nx]
  exact hT.mem_iff.mpr (inside_mem _ _ ((h2 s (hT.mem_iff.mp hs)).1 u hu))
 ·
  intro i hi
  have hm:T.getD i []∈T:=getD_mem _ _ _ (by omega)
  rcases (h2 _ (hT.mem_iff.mp hm)).2 with e | ⟨u,hu,hlt⟩
  ·
   have e2:T.getD i []=a.rooms:=by simpa using e
   have h3:=idx_getD T nd i (by omega)
   have h4:=idx_getD T nd (T.length-1) (by omega)
   rw[e2] at h3
   rw[hlast] at h4
   omega
  ·
   refine⟨u,hu,?_⟩
   rw[next_nx]
   have:=Nat.le_of_ble_eq_true hlt
   omega
theorem states_last:∀(r:List Nat),(states r).getLast?=some r
 | []=>rfl
 |
  x::r=>by
  have ih:=states_last r
  simp only[states]
  rw[List.range_succ,List.flatMap_append,List.flatMap_singleton,List.getLast?_append,List.getLast?_map,ih]
  rfl
def lists:Nat→List (List Nat)
 | 0=>[[]]
 | g+1=>[1,2,3,4,5,6,7,8].flatMap fun k=>(lists g).map fun l=>k::l
def allW (g:Nat):List (List Nat):=(lists g).filter Su112.fits
theorem mem_lists:∀(r:List Nat),(r.all fun x=>decide (1≤x)&&decide (x≤8))=true→r∈lists r.length
 | [],_=>by simp[lists]
 |
  x::r,h=>by
  rw[List.all_cons,Bool.and_eq_true] at h
  have ih:=mem_lists r h.2
  have hx:=h.1
  simp only[Bool.and_eq_true,decide_eq_true_eq] at hx
  rw[List.length_cons]
  simp only[lists,List.mem_flatMap,List.mem_map]
  refine⟨x,?_,r,ih,rfl⟩
  have h1:=hx.1
  have h2:=hx.2
  simp
  omega
theorem ord1:((allW 1).all fun r=>okOrd 2 r)=true:=by decide +kernel
theorem ord2:((allW 2).all fun r=>okOrd 3 r)=true:=by decide +kernel
theorem ord3:((allW 3).all fun r=>okOrd 4 r)=true:=by decide +kernel
def wt:List Nat→List Nat→Nat
 | p::c,x::u=>(if x=1 then p else 10-p)*wt c u
 | _,_=>1
theorem ups_len:∀(n:Nat) (u:List Nat),u∈ups n→u.length=n
 | 0,u,h=>by simp[ups] at h;simp[h]
 |
  n+1,u,h=>by
  simp only[ups,List.mem_flatMap,List.mem_map] at h
  obtain⟨x,_,l,hl,e⟩:=h
  rw[←e,List.length_cons,ups_len n l hl]
theorem foldl_mul (l:List Nat)(a:Nat):l.foldl (fun x y=>x*y) a=a*l.foldl (fun x y=>x*y) 1:=by
 induction l generalizing a with
 | nil=>simp
 | cons x l ih=>rw[List.foldl_cons,ih,List.foldl_cons,ih (1*x),Nat.one_mul,Nat.mul_assoc]
theorem weight_wt (r n:List Nat):∀(c u:List Nat),u.length=c.length→(Abs.mk c r n).weight u=wt c u
 |
  [],u,h=>by
  have:u=[]:=List.eq_nil_of_length_eq_zero (by simpa using h)
  subst this;rfl
 | p::c,[],h=>by simp at h
 |
  p::c,x::u,h=>by
  have ih:=weight_wt r n c u (by simpa using h)
  simp only[wt]
  rw[←ih]
  unfold Abs.weight
  simp only[Abs.m,List.length_cons]
  rw[List.range_succ_eq_map,List.map_cons,List.foldl_cons,foldl_mul,List.map_map]
  simp only[Abs.p,List.getD_cons_zero,Nat.one_mul]
  rfl
def okCh (c:List Nat):Prop:=∀p∈c,1≤p∧p≤9
theorem wt_pos:∀(c u:List Nat),okCh c→0<wt c u
 | [],_,_=>by simp[wt]
 | p::c,[],_=>by simp[wt]
 |
  p::c,x::u,h=>by
  have hp:=h p (by simp)
  simp only[wt]
  apply Nat.mul_pos
  ·
   split<;>omega
  ·
   exact wt_pos c u (fun q hq=>h q (by simp[hq]))
theorem sum_map_mul (k:Nat)(l:List Nat):(l.map fun x=>k*x).sum=k*l.sum:=by
 induction l with
 | nil=>simp
 | cons x l ih=>rw[List.map_cons,List.sum_cons,ih,List.sum_cons,Nat.mul_add]
theorem wt_total:∀(c:List Nat),okCh c→((ups c.length).map (wt c)).sum=10^c.length
 | [],_=>by simp[ups,wt]
 |
  p::c,h=>by
  have ih:=wt_total c (fun q hq=>h q (by simp[hq]))
  have hp:=h p (by simp)
  rw[List.length_cons]
  simp only[ups,List.flatMap_cons,List.flatMap_nil,List.append_nil,List.map_append,List.map_map,List.sum_append]
  have e0:(wt (p::c)∘fun l=>0::l)=fun u=>(10-p)*wt c u:=by funext u;simp[wt]
  have e1:(wt (p::c)∘fun l=>1::l)=fun u=>p*wt c u:=by funext u;simp[wt]
  rw[e0,e1]
  have m0:(ups c.length).map (fun u=>(10-p)*wt c u)=((ups c.length).map (wt c)).map (fun x=>(10-p)*x):=by rw[List.map_map];rfl
  have m1:(ups c.length).map (fun u=>p*wt c u)=((ups c.length).map (wt c)).map (fun x=>p*x):=by rw[List.map_map];rfl
  rw[m0,m1,sum_map_mul,sum_map_mul,ih,←Nat.add_mul,show 10-p+p=10 by omega,Nat.pow_succ,Nat.mul_comm]
theorem wts (c r n:List Nat)(h:okCh c):Wts ⟨c,r,n⟩:=by
 constructor
 ·
  intro u hu
  rw[weight_wt r n c u (ups_len _ _ hu)];exact wt_pos c u h
 ·
  show ((ups c.length).map (Abs.mk c r n).weight).sum=10^c.length
  rw[←wt_total c h]
  congr 1
  apply List.map_congr_left
  intro u hu
  exact weight_wt r n c u (ups_len _ _ hu)
structure Fine (c r:List Nat):Prop where
 lens:c.length=r.length+1
 few:1≤r.length∧r.length≤3
 ch:okCh c
 held:(r.all fun x=>decide (1≤x)&&decide (x≤8))=true
 fit:Su112.fits r=true
theorem Fine.mem {c r:List Nat}(F:Fine c r):r∈allW r.length:=
 List.mem_filter.mpr ⟨mem_lists r F.held,F.fit⟩
theorem Fine.okOrd {c r:List Nat}(F:Fine c r):okOrd c.length r=true:=by
 rw[F.lens]
 have hm:=F.mem
 have hf:=F.few
 have h3:r.length=1∨r.length=2∨r.length=3:=by omega
 rcases h3 with e | e | e
 ·
  rw[e] at hm ⊢;exact List.all_eq_true.mp ord1 r hm
 ·
  rw[e] at hm ⊢;exact List.all_eq_true.mp ord2 r hm
 ·
  rw[e] at hm ⊢;exact List.all_eq_true.mp ord3 r hm
theorem Fine.ord {c r:List Nat}(F:Fine c r)(T:List (List Nat))(hT:T.Perm (states r))(hl:T.getLast?=some r):
  Ord (Su112.line c r) T:=okOrd_ord (a:=Su112.line c r) F.okOrd T hT hl
theorem Fine.wts {c r:List Nat}(F:Fine c r):Wts (Su112.line c r):=Rb.wts c r _ F.ch
theorem Fine.rate {c r:List Nat}(F:Fine c r)(T:List (List Nat))(hT:T.Perm (states r))(w:Nat→Rat)
  (hw:∀j,j<T.length→DD (Su112.line c r)*w j=Am T.length (fun i=>w i*RT (Su112.line c r) T i j))
  (hpos:0<Am T.length w):Canon (Su112.rate c r)∧val (Su112.rate c r)=
   Am T.length (fun i=>w i*((ow (Su112.line c r) (T.getD i []):Nat):Rat))/(DD (Su112.line c r)*Am T.length w):=
 rate_by (Su112.line c r) F.wts (F.ord _ (List.Perm.refl _) (states_last r)) T hT w hw hpos
end Rb
namespace Rb
open Su111
def aheadR (found:List (Nat×List Bool))(p:Nat)(pc pl:Bool):List (Nat×List Bool):=
 found.flatMap fun x=>if pc&&(pl||x.2.headD false) then [(x.1*p,true::x.2),(x.1*(10-p),false::x.2)] else [(x.1*10,false::x.2)]
def hoursZ:List (Bool×Bool)→List Nat→List (Nat×List Bool)
 | [],_=>[(1,[])]
 | z::Z,c=>aheadR (hoursZ Z c.tail) (c.headD 0) z.1 z.2
def wkZ:List (Bool×Bool)→List Nat→List Bool
 | [],_=>[]
 | z::Z,u=>(u.headD 0==1&&(z.1&&(z.2||(wkZ Z u.tail).headD false)))::wkZ Z u.tail
theorem wkZ_len:∀(Z:List (Bool×Bool)) (u:List Nat),(wkZ Z u).length=Z.length
 | [],_=>rfl
 | z::Z,u=>by simp[wkZ,wkZ_len Z u.tail]
theorem sum_flat {α:Type}(f:α→List Nat)(l:List α):((l.flatMap f).sum)=(l.map fun x=>(f x).sum).sum:=by
 induction l with
 | nil=>rfl
 | cons x l ih=>rw[List.flatMap_cons,List.sum_append,ih,List.map_cons,List.sum_cons]
theorem sum_map_add {α:Type}(f g:α→Nat)(l:List α):(l.map fun x=>f x+g x).sum=(l.map f).sum+(l.map g).sum:=by
 induction l with
 | nil=>rfl
 | cons x l ih=>simp only[List.map_cons,List.sum_cons];rw[ih];omega
theorem hsum:∀(Z:List (Bool×Bool)) (c:List Nat) (G:List Bool→Nat),c.length=Z.length→okCh c→
  ((hoursZ Z c).map fun x=>x.1*G x.2).sum=((ups Z.length).map fun u=>wt c u*G (wkZ Z u)).sum
 |
  [],c,G,h,_=>by
  have:c=[]:=List.eq_nil_of_length_eq_zero (by simpa using h)
  subst this;simp[hoursZ,ups,wt,wkZ]
 | z::Z,[],G,h,_=>by simp at h
 |
  z::Z,p::c,G,h,hc=>by
  have hp:=hc p (by simp)
  simp only[hoursZ,aheadR,List.tail_cons,List.headD_cons]
  have ih:=hsum Z c (fun l=>if z.1&&(z.2||l.headD false) then p*G (true::l)+(10-p)*G (false::l) else 10*G (false::l)) (by simpa using h) (fun q hq=>hc q (by simp[hq]))
  rw[List.map_flatMap,sum_flat]
  have e:((hoursZ Z c).map fun x=>((if z.1&&(z.2||x.2.headD false) then [(x.1*p,true::x.2),(x.1*(10-p),false::x.2)] else [(x.1*10,false::x.2)]).map fun x=>x.1*G x.2).sum).sum=
    ((hoursZ Z c).map fun x=>x.1*(fun l:List Bool=>if z.1&&(z.2||l.headD false) then p*G (true::l)+(10-p)*G (false::l) else 10*G (false::l)) x.2).sum:=by
   congr 1
   apply List.map_congr_left
   intro x hx
   simp only
   split
   ·
    simp only[List.map_cons,List.map_nil,List.sum_cons,List.sum_nil,Nat.add_zero]
    rw[Nat.mul_add,←Nat.mul_assoc,←Nat.mul_assoc]
   ·
    simp only[List.map_cons,List.map_nil,List.sum_cons,List.sum_nil,Nat.add_zero]
    rw[←Nat.mul_assoc]
  rw[e,ih,List.length_cons]
  simp only[ups,List.flatMap_cons,List.flatMap_nil,List.append_nil,List.map_append,List.map_map,List.sum_append]
  rw[←sum_map_add]
  congr 1
  apply List.map_congr_left
  intro u hu
  simp only[Function.comp,wt,wkZ,List.headD_cons,List.tail_cons]
  have e0:((0:Nat)==1)=false:=rfl
  have e1:((1:Nat)==1)=true:=rfl
  simp only[e0,e1,Bool.false_and,Bool.true_and,if_true]
  rw[if_neg (show ¬(0:Nat)=1 by decide)]
  cases hb:(z.1&&(z.2||(wkZ Z u).headD false))
  ·
   simp only[Bool.false_eq_true,if_false]
   rw[←Nat.add_mul,←Nat.add_mul,show 10-p+p=10 by omega,Nat.mul_comm 10 (wt c u),Nat.mul_assoc]
  ·
   simp only[if_true]
   rw[Nat.mul_add,←Nat.mul_assoc,←Nat.mul_assoc,Nat.mul_comm (wt c u) p,Nat.mul_comm (wt c u) (10-p),Nat.add_comm]
theorem hours_wk:∀(Z:List (Bool×Bool)) (c:List Nat) (x:Nat×List Bool),x∈hoursZ Z c→∃u∈ups Z.length,x.2=wkZ Z u
 |
  [],c,x,h=>by
  simp only[hoursZ,List.mem_singleton] at h
  exact⟨[],by simp[ups],by rw[h];rfl⟩
 |
  z::Z,c,x,h=>by
  simp only[hoursZ,aheadR,List.mem_flatMap] at h
  obtain⟨y,hy,h2⟩:=h
  obtain⟨u,hu,e⟩:=hours_wk Z c.tail y hy
  have m0:(0::u)∈ups (z::Z).length:=by simp[ups,hu]
  have m1:(1::u)∈ups (z::Z).length:=by simp[ups,hu]
  have w0:wkZ (z::Z) (0::u)=false::wkZ Z u:=rfl
  split at h2
  ·
   rename_i hb
   have w1:wkZ (z::Z) (1::u)=true::wkZ Z u:=by
    simp only[wkZ,List.headD_cons,List.tail_cons]
    rw[←e,hb];rfl
   simp only[List.mem_cons,List.mem_nil_iff,or_false] at h2
   rcases h2 with h2 | h2
   ·
    exact⟨1::u,m1,by rw[h2,w1,e]⟩
   ·
    exact⟨0::u,m0,by rw[h2,w0,e]⟩
  ·
   simp only[List.mem_cons,List.mem_nil_iff,or_false] at h2
   exact⟨0::u,m0,by rw[h2,w0,e]⟩
def zOf (m:Nat)(r s:List Nat)(i:Nat):Bool×Bool:=(i==0||decide (0<s.getD (i-1) 0),i+1==m||decide (s.getD i 0<r.getD i 0))
def zs (m:Nat)(r s:List Nat):List (Bool×Bool):=(List.range m).map (zOf m r s)
theorem works_wk (a:Abs)(s u:List Nat)(hu:u.length=a.m):a.works s u=wkZ (zs a.m a.rooms s) u:=by
 unfold Abs.works
 have key:∀k,k≤a.m→(List.range k).reverse.foldl (fun l i=>(u.getD i 0==1&&((i==0||decide (0<s.getD (i-1) 0))&&(i+1==a.m||decide (s.getD i 0<a.room i)||l.headD false)))::l)
   (wkZ ((zs a.m a.rooms s).drop k) (u.drop k))=wkZ (zs a.m a.rooms s) u:=by
  intro k
  induction k with
  | zero=>intro _;rfl
  |
   succ k ih=>
   intro hk
   rw[List.range_succ,List.reverse_append,List.reverse_singleton,List.singleton_append,List.foldl_cons,←ih (by omega)]
   congr 1
   have ez:(zs a.m a.rooms s).drop k=zOf a.m a.rooms s k::(zs a.m a.rooms s).drop (k+1):=by
    rw[List.drop_eq_getElem_cons (by simp[zs];omega)]
    simp[zs]
   have eu:u.drop k=u.getD k 0::u.drop (k+1):=by
    rw[List.drop_eq_getElem_cons (by omega)]
    rw[List.getD_eq_getElem?_getD,List.getElem?_eq_getElem (by omega)];rfl
   rw[ez,eu]
   rfl
 have h0:wkZ ((zs a.m a.rooms s).drop a.m) (u.drop a.m)=[]:=by
  have:(zs a.m a.rooms s).drop a.m=[]:=List.drop_eq_nil_of_le (by simp[zs])
  rw[this];rfl
 have:=key a.m (Nat.le_refl _)
 rw[h0] at this
 exact this
def nextW (g:Nat)(s:List Nat)(w:List Bool):List Nat:=
 (List.range g).map fun i=>s.getD i 0+(if w.getD i false then 1 else 0)-(if w.getD (i+1) false then 1 else 0)
theorem next_nextW (a:Abs)(s u:List Nat):a.next s u=nextW a.rooms.length s (a.works s u):=rfl
def hoursOf (c r s:List Nat):List (Nat×List Bool):=hoursZ (zs c.length r s) c
theorem weight_line (c r u:List Nat)(h:u.length=c.length):(Su112.line c r).weight u=wt c u:=weight_wt r _ c u h
theorem sum_filter {α:Type}(p:α→Bool)(f:α→Nat)(l:List α):((l.filter p).map f).sum=(l.map fun x=>f x*(if p x then 1 else 0)).sum:=by
 induction l with
 | nil=>rfl
 |
  cons x l ih=>
  rw[List.filter_cons,List.map_cons,List.sum_cons,←ih]
  cases p x<;>simp
theorem P_hours (c r s t:List Nat)(hc:okCh c):
  P (Su112.line c r) s t=((hoursOf c r s).map fun x=>x.1*(if nextW r.length s x.2==t then 1 else 0)).sum:=by
 unfold hoursOf
 rw[hsum (zs c.length r s) c (fun l=>if nextW r.length s l==t then 1 else 0) (by simp[zs]) hc]
 unfold P trans
 rw[List.filter_map,List.map_map,sum_filter]
 have el:(zs c.length r s).length=c.length:=by simp[zs]
 rw[el]
 congr 1
 apply List.map_congr_left
 intro u hu
 have hl:=ups_len _ _ hu
 show (Su112.line c r).weight u*(if ((Su112.line c r).next s u==t)=true then 1 else 0)=_
 rw[weight_line c r u hl,next_nextW,works_wk (Su112.line c r) s u hl]
 rfl
theorem ow_hours (c r s:List Nat)(hc:okCh c):
  ow (Su112.line c r) s=((hoursOf c r s).map fun x=>x.1*(if x.2.getD (c.length-1) false then 1 else 0)).sum:=by
 unfold hoursOf
 rw[hsum (zs c.length r s) c (fun l=>if l.getD (c.length-1) false then 1 else 0) (by simp[zs]) hc]
 unfold ow
 rw[sum_filter]
 have el:(zs c.length r s).length=c.length:=by simp[zs]
 rw[el]
 congr 1
 apply List.map_congr_left
 intro u hu
 have hl:=ups_len _ _ hu
 rw[weight_line c r u hl,works_wk (Su112.line c r) s u hl]
 rfl
theorem tot_hours (c r s:List Nat)(hc:okCh c):((hoursOf c r s).map fun x=>x.1).sum=10^c.length:=by
 have h:=hsum (zs c.length r s) c (fun _=>1) (by simp[zs]) hc
 have el:(zs c.length r s).length=c.length:=by simp[zs]
 rw[el] at h
 simp only[Nat.mul_one] at h
 exact h.trans (wt_total c hc)
def bi (b:Bool):Int:=if b then 1 else 0
theorem wk_has:∀(Z:List (Bool×Bool)) (u:List Nat) (i:Nat),(wkZ Z u).getD i false=true→(Z.getD i (false,false)).1=true
 | [],_,i,h=>by simp[wkZ] at h
 |
  z::Z,u,0,h=>by
  simp only[wkZ,List.getD_cons_zero,Bool.and_eq_true] at h
  exact h.2.1
 |
  z::Z,u,i+1,h=>by
  simp only[wkZ,List.getD_cons_succ] at h ⊢
  exact wk_has Z u.tail i h
theorem next_int (c r s:List Nat)(x:Nat×List Bool)(hx:x∈hoursOf c r s)(i:Nat)(hi:i+1<c.length):
  ((
   s.getD i 0+(if x.2.getD i false then 1 else 0)-(if x.2.getD (i+1) false then 1 else 0):Nat):Int)=
   (s.getD i 0:Int)+bi (x.2.getD i false)-bi (x.2.getD (i+1) false):=by
 obtain⟨u,hu,e⟩:=hours_wk _ _ x hx
 have h:x.2.getD (i+1) false=true→0<s.getD i 0:=by
  intro h
  rw[e] at h
  have h2:=wk_has _ _ _ h
  have h3:(zs c.length r s).getD (i+1) (false,false)=zOf c.length r s (i+1):=by
   simp[zs,List.getD_eq_getElem?_getD,hi]
  rw[h3] at h2
  simp[zOf] at h2
  rw[List.getD_eq_getElem?_getD]
  exact h2
 cases h1:x.2.getD i false<;>cases h2:x.2.getD (i+1) false<;>simp only[bi,if_true,Bool.false_eq_true,if_false]
 ·
  omega
 ·
  have:=h h2;omega
 ·
  omega
 ·
  have:=h h2;omega
end Rb
namespace Rb
def Bd (b x:Rat):Prop:=-b≤x∧x≤b
theorem Bd.nn {b x:Rat}(h:Bd b x):0≤b:=by have h1:=h.1;have h2:=h.2;grind
theorem Bd.add {a b x y:Rat}(h:Bd a x)(k:Bd b y):Bd (a+b) (x+y):=by
 have h1:=h.1;have h2:=h.2;have k1:=k.1;have k2:=k.2
 constructor<;>grind
theorem Bd.mul {a b x y:Rat}(h:Bd a x)(k:Bd b y):Bd (a*b) (x*y):=by
 have h1:=h.1;have h2:=h.2;have k1:=k.1;have k2:=k.2
 have a0:=h.nn;have b0:=k.nn
 have p1:0≤(a-x)*(b+y):=mul_nn (by grind) (by grind)
 have p2:0≤(a+x)*(b-y):=mul_nn (by grind) (by grind)
 have p3:0≤(a-x)*(b-y):=mul_nn (by grind) (by grind)
 have p4:0≤(a+x)*(b+y):=mul_nn (by grind) (by grind)
 constructor<;>grind
theorem bd_sum {b:Rat}:∀(n:Nat) (f:Nat→Rat),(∀i,i<n→Bd b (f i))→Bd ((n:Nat)*b) (Am n f)
 |
  0,f,_=>by
  have:((0:Nat):Rat)=0:=rfl
  simp only[Am];rw[this]
  constructor<;>grind
 |
  n+1,f,h=>by
  have h1:=bd_sum n f (fun i hi=>h i (by omega))
  have h2:=h1.add (h n (by omega))
  simp only[Am]
  have e:((n+1:Nat):Rat)*b=(n:Nat)*b+b:=by
   rw[Rat.natCast_add]
   have:((1:Nat):Rat)=1:=rfl
   rw[this];grind
  rw[e];exact h2
def bnd (M:Nat):Nat→Nat
 | 0=>1
 | n+1=>(n+1)*(bnd M n*M)
theorem det_bd (M:Nat):∀(n:Nat) (A:Nat→Nat→Rat),(∀r c,Bd (M:Nat) (A r c))→Bd ((bnd M n:Nat)) (det n A)
 |
  0,A,_=>by
  have:((bnd M 0:Nat):Rat)=1:=rfl
  simp only[det];rw[this];constructor<;>decide
 |
  n+1,A,h=>by
  simp only[det]
  have hb:∀i,i<n+1→Bd ((bnd M n*M:Nat):Rat) (sgn (n+i)*det n (fun r c=>A r (skip i c))*A n i):=by
   intro i hi
   rw[Rat.natCast_mul]
   apply Bd.mul
   ·
    have h1:=det_bd M n (fun r c=>A r (skip i c)) (fun r c=>h r _)
    have h2:Bd 1 (sgn (n+i)):=by simp only[sgn];split<;>constructor<;>decide
    have h3:=h2.mul h1
    rw[Rat.one_mul] at h3;exact h3
   ·
    exact h n i
  have:=bd_sum (n+1) _ hb
  rw[←Rat.natCast_mul] at this
  exact this
theorem bnd_mono (M:Nat)(hM:1≤M):∀(n k:Nat),n≤k→bnd M n≤bnd M k:=by
 intro n k h
 induction k with
 | zero=>rw[show n=0 by omega];exact Nat.le_refl _
 |
  succ k ih=>
  by_cases e:n=k+1
  ·
   rw[e];exact Nat.le_refl _
  ·
   have h1:=ih (by omega)
   simp only[bnd]
   have h2:bnd M k≤bnd M k*M:=Nat.le_mul_of_pos_right _ (by omega)
   have h3:bnd M k*M≤(k+1)*(bnd M k*M):=Nat.le_mul_of_pos_left _ (by omega)
   omega
def BIG:Nat:=2^512
theorem bnd_big:bnd 10000 28<BIG:=by decide +kernel
theorem bd_int {z:Int}{b:Nat}(h:Bd ((b:Nat):Rat) (z:Rat)):z.natAbs≤b:=by
 have h1:=h.1;have h2:=h.2
 have e:(((b:Nat):Int):Rat)=((b:Nat):Rat):=rfl
 have a1:z≤(b:Int):=Rat.intCast_le_intCast.mp (by rw[e];exact h2)
 have a2:-(b:Int)≤z:=Rat.intCast_le_intCast.mp (by rw[Rat.intCast_neg,e];exact h1)
 omega
def atM (l:List Int)(sc me:Int):List Int:=l.map fun x=>Int.fdiv (x*me) sc
def woF (l:List Int)(sc:Int)(tk:List Int):List Int×Int:=
 if l.headD 0=0 then (l.tail,sc)
 else ((l.tail.zip tk.tail).map (fun p=>Int.fdiv (tk.headD 0*p.1-l.headD 0*p.2) sc),tk.headD 0)
def Qf (rows:List (List Int))(r c:Nat):Rat:=(((rows.getD r []).getD c 0:Int):Rat)
structure Sys (n:Nat)(Q:Nat→Nat→Rat):Prop where
 pos:1≤n
 few:n≤27
 isInt:∀r c,∃z:Int,Q r c=z
 bd:∀r c,Bd ((10000:Nat):Rat) (Q r c)
 pivs:∀k,k+1<n→piv Q k≠0
structure RowOk (Q:Nat→Nat→Rat)(n k r:Nat)(x:List Int×Int):Prop where
 len:x.1.length=n-k
 sc:x.2≠0
 val:∀j,j<n-k→((x.1.getD j 0:Int):Rat)=(x.2:Rat)*red Q k (Q r) (k+j)
 big:∀y∈x.1,y.natAbs<BIG
 sbig:x.2.natAbs<BIG
structure Stg (Q:Nat→Nat→Rat)(n k:Nat)(l:List (List Int×Int))(me:Int):Prop where
 le:k+1≤n
 len:l.length=n+1-k
 rows:∀i,i<n+1-k→RowOk Q n k (k+i) (l.getD i ([],1))
 meq:(me:Rat)=det k Q
 mbig:me.natAbs<BIG
theorem minor_whole {n:Nat}{Q:Nat→Nat→Rat}(S:Sys n Q)(k r c:Nat)(hk:k+1≤n):
  ∃z:Int,(z:Rat)=det k Q*red Q k (Q r) c∧z.natAbs<BIG:=by
 obtain⟨z,hz⟩:=minor_isInt Q k c (Q r) S.isInt (S.isInt r)
 refine⟨z,?_,?_⟩
 ·
  rw[←hz,minor_det Q k (fun i hi=>S.pivs i (by omega))]
 ·
  have h:=det_bd 10000 (k+1) (brd Q k (Q r) c) (fun i j=>by
   simp only[brd];split<;>exact S.bd _ _)
  have h2:Bd ((bnd 10000 (k+1):Nat):Rat) (z:Rat):=by rw[←hz];exact h
  have h3:=bd_int h2
  have h4:=bnd_mono 10000 (by decide) (k+1) 28 (by have:=S.few;omega)
  have h5:=bnd_big
  omega
theorem fdiv_exact {a b z:Int}(hb:b≠0)(h:a=b*z):Int.fdiv a b=z:=by
 rw[h];exact Int.mul_fdiv_cancel_left z hb
theorem getD_map_int {α:Type}(l:List α)(f:α→Int)(d:α)(j:Nat)(h:j<l.length):(l.map f).getD j 0=f (l.getD j d):=by
 simp[List.getD_eq_getElem?_getD,h]
theorem atM_ok {n:Nat}{Q:Nat→Nat→Rat}(S:Sys n Q){k r:Nat}{x:List Int×Int}{me:Int}(hk:k+1≤n)
  (R:RowOk Q n k r x)(hm:(me:Rat)=det k Q):
  (atM x.1 x.2 me).length=n-k∧(∀j,j<n-k→(((atM x.1 x.2 me).getD j 0:Int):Rat)=det k Q*red Q k (Q r) (k+j))∧
  ∀y∈atM x.1 x.2 me,y.natAbs<BIG:=by
 have key:∀j,j<n-k→∃z:Int,(z:Rat)=det k Q*red Q k (Q r) (k+j)∧z.natAbs<BIG∧(atM x.1 x.2 me).getD j 0=z:=by
  intro j hj
  obtain⟨z,hz,hb⟩:=minor_whole S k r (k+j) hk
  refine⟨z,hz,hb,?_⟩
  unfold atM
  rw[getD_map_int x.1 _ 0 j (by rw[R.len];exact hj)]
  apply fdiv_exact R.sc
  apply Rat.intCast_inj.mp
  rw[Rat.intCast_mul,Rat.intCast_mul,R.val j hj,hm,hz];grind
 have hl:(atM x.1 x.2 me).length=n-k:=by unfold atM;rw[List.length_map,R.len]
 refine⟨hl,?_,?_⟩
 ·
  intro j hj
  obtain⟨z,h1,_,h3⟩:=key j hj
  rw[h3,h1]
 ·
  intro y hy
  obtain⟨j,hj,e⟩:=List.mem_iff_getElem.mp hy
  obtain⟨z,_,h2,h3⟩:=key j (by omega)
  have:(atM x.1 x.2 me).getD j 0=y:=by
   rw[List.getD_eq_getElem?_getD,List.getElem?_eq_getElem hj,e];rfl
  rw[←this,h3];exact h2
theorem headD_getD {α:Type}(l:List α)(d:α):l.headD d=l.getD 0 d:=by cases l<;>rfl
theorem tail_getD {α:Type}(l:List α)(d:α)(j:Nat):l.tail.getD j d=l.getD (j+1) d:=by cases l<;>simp
theorem woF_ok {n:Nat}{Q:Nat→Nat→Rat}(S:Sys n Q){k r:Nat}{x:List Int×Int}{tk:List Int}(hk:k+2≤n)
  (R:RowOk Q n k r x)(tl:tk.length=n-k)(tv:∀j,j<n-k→((tk.getD j 0:Int):Rat)=det k Q*red Q k (Q k) (k+j))
  (tb:∀y∈tk,y.natAbs<BIG):RowOk Q n (k+1) r (woF x.1 x.2 tk):=by
 have pv:=S.pivs k (by omega)
 have hd:=det_step Q k (fun i hi=>S.pivs i (by omega))
 have t0:=tv 0 (by omega)
 have x0:=R.val 0 (by omega)
 rw[Nat.add_zero] at t0 x0
 have tk0:((tk.getD 0 0:Int):Rat)=det (k+1) Q:=by rw[t0,hd];rfl
 have rstep:∀c,red Q (k+1) (Q r) c=red Q k (Q r) c-red Q k (Q r) k/piv Q k*red Q k (Q k) c:=fun c=>rfl
 unfold woF
 rw[headD_getD,headD_getD]
 by_cases e:x.1.getD 0 0=0
 ·
  rw[if_pos e]
  have z0:red Q k (Q r) k=0:=by
   rw[e] at x0
   rcases Rat.mul_eq_zero.mp x0.symm with h | h
   ·
    exact absurd (Rat.intCast_inj.mp h) R.sc
   ·
    exact h
  refine⟨by simp only[List.length_tail];rw[R.len];omega,R.sc,?_,?_,R.sbig⟩
  ·
   intro j hj
   simp only
   rw[tail_getD,R.val (j+1) (by omega),rstep,z0,show k+(j+1)=k+1+j by omega]
   grind
  ·
   intro y hy
   exact R.big y (List.mem_of_mem_tail hy)
 ·
  rw[if_neg e]
  have hlz:(x.1.tail.zip tk.tail).length=n-(k+1):=by
   rw[List.length_zip,List.length_tail,List.length_tail,R.len,tl];omega
  have key:∀j,j<n-(k+1)→∃z:Int,(z:Rat)=det (k+1) Q*red Q (k+1) (Q r) (k+1+j)∧z.natAbs<BIG∧
    ((x.1.tail.zip tk.tail).map (fun p=>Int.fdiv (tk.getD 0 0*p.1-x.1.getD 0 0*p.2) x.2)).getD j 0=z:=by
   intro j hj
   obtain⟨z,hz,hb⟩:=minor_whole S (k+1) r (k+1+j) (by omega)
   refine⟨z,hz,hb,?_⟩
   rw[getD_map_int _ _ (0,0) j (by rw[hlz];exact hj)]
   have hzip:(x.1.tail.zip tk.tail).getD j (0,0)=(x.1.getD (j+1) 0,tk.getD (j+1) 0):=by
    have h1:j<x.1.tail.length:=by rw[List.length_tail,R.len];omega
    have h2:j<tk.tail.length:=by rw[List.length_tail,tl];omega
    rw[←tail_getD,←tail_getD]
    simp only[List.getD_eq_getElem?_getD]
    rw[List.getElem?_eq_getElem (by rw[hlz];exact hj),List.getElem?_eq_getElem h1,List.getElem?_eq_getElem h2]
    simp
   rw[hzip]
   apply fdiv_exact R.sc
   apply Rat.intCast_inj.mp
   rw[Rat.intCast_sub,Rat.intCast_mul,Rat.intCast_mul,Rat.intCast_mul,tk0,R.val (j+1) (by omega),x0,tv (j+1) (by omega),hz,rstep,hd,
    show k+(j+1)=k+1+j by omega]
   have:red Q k (Q r) k/piv Q k*piv Q k=red Q k (Q r) k:=Rat.div_mul_cancel pv
   generalize red Q k (Q r) k/piv Q k=t at *
   rw[←this]
   grind
  have d1:det (k+1) Q≠0:=det_ne Q (k+1) (fun i hi=>S.pivs i (by omega))
  refine⟨by simp only[List.length_map];exact hlz,?_,?_,?_,?_⟩
  ·
   intro h
   simp only at h
   rw[h] at tk0
   exact d1 tk0.symm
  ·
   intro j hj
   obtain⟨z,h1,_,h3⟩:=key j hj
   simp only
   rw[h3,h1,tk0]
  ·
   intro y hy
   obtain⟨j,hj,e2⟩:=List.mem_iff_getElem.mp hy
   have hj':j<n-(k+1):=by simp only[List.length_map] at hj;omega
   obtain⟨z,_,h2,h3⟩:=key j hj'
   have:((x.1.tail.zip tk.tail).map (fun p=>Int.fdiv (tk.getD 0 0*p.1-x.1.getD 0 0*p.2) x.2)).getD j 0=y:=by
    rw[List.getD_eq_getElem?_getD,List.getElem?_eq_getElem hj];exact e2
   rw[←this,h3];exact h2
  ·
   simp only
   have hm:tk.getD 0 0∈tk:=by
    rw[List.getD_eq_getElem?_getD,List.getElem?_eq_getElem (by omega)];exact List.getElem_mem _
   exact tb _ hm
theorem stg_step {n:Nat}{Q:Nat→Nat→Rat}(S:Sys n Q){k:Nat}{l:List (List Int×Int)}{me:Int}(G:Stg Q n k l me)(hk:2<l.length):
  Stg Q n (k+1) (l.tail.map fun x=>woF x.1 x.2 (atM (l.getD 0 ([],1)).1 (l.getD 0 ([],1)).2 me))
   ((atM (l.getD 0 ([],1)).1 (l.getD 0 ([],1)).2 me).getD 0 0):=by
 have hl:=G.len
 have h1:=G.le
 obtain⟨a1,a2,a3⟩:=atM_ok S h1 (G.rows 0 (by omega)) G.meq
 rw[Nat.add_zero] at a2
 have hd:=det_step Q k (fun i hi=>S.pivs i (by omega))
 refine⟨by omega,by rw[List.length_map,List.length_tail];omega,?_,?_,?_⟩
 ·
  intro i hi
  have e:(l.tail.map fun x=>woF x.1 x.2 (atM (l.getD 0 ([],1)).1 (l.getD 0 ([],1)).2 me)).getD i ([],1)=
    woF (l.getD (i+1) ([],1)).1 (l.getD (i+1) ([],1)).2 (atM (l.getD 0 ([],1)).1 (l.getD 0 ([],1)).2 me):=by
   have hi2:i<l.tail.length:=by rw[List.length_tail];omega
   rw[←tail_getD l ([],1) i]
   simp only[List.getD_eq_getElem?_getD]
   rw[List.getElem?_map,List.getElem?_eq_getElem hi2];rfl
  rw[e,show k+1+i=k+(i+1) by omega]
  exact woF_ok S (by omega) (G.rows (i+1) (by omega)) a1 a2 a3
 ·
  rw[a2 0 (by omega),hd];rfl
 ·
  exact a3 _ (getD_mem _ _ _ (by omega))
theorem stg_end {n:Nat}{Q:Nat→Nat→Rat}(S:Sys n Q){k:Nat}{l:List (List Int×Int)}{me:Int}(G:Stg Q n k l me)(hk:¬2<l.length):
  l.length=2∧∀i,i<2→(atM (l.getD i ([],1)).1 (l.getD i ([],1)).2 me).length=1∧
   (((atM (l.getD i ([],1)).1 (l.getD i ([],1)).2 me).getD 0 0:Int):Rat)=minor Q (n-1) (Q (n-1+i)) (n-1)∧
   ((atM (l.getD i ([],1)).1 (l.getD i ([],1)).2 me).getD 0 0).natAbs<BIG:=by
 have hl:=G.len
 have h1:=G.le
 have ek:k=n-1:=by omega
 refine⟨by omega,fun i hi=>?_⟩
 obtain⟨a1,a2,a3⟩:=atM_ok S h1 (G.rows i (by omega)) G.meq
 refine⟨by omega,?_,?_⟩
 ·
  rw[a2 0 (by omega),minor_det Q (n-1) (fun i hi=>S.pivs i (by omega)),Nat.add_zero,ek]
 ·
  exact a3 _ (getD_mem _ _ _ (by omega))
theorem stg_start {n:Nat}(rows:List (List Int))(S:Sys n (Qf rows))(hl:rows.length=n+1)(hr:∀r∈rows,r.length=n)
  (hb:∀r∈rows,∀y∈r,y.natAbs≤10000):Stg (Qf rows) n 0 (rows.map fun r=>(r,1)) 1:=by
 refine⟨S.pos,by rw[List.length_map,hl];rfl,?_,?_,by decide +kernel⟩
 ·
  intro i hi
  have hi2:i<rows.length:=by omega
  have e:(rows.map fun r=>(r,(1:Int))).getD i ([],1)=(rows.getD i [],1):=by
   simp only[List.getD_eq_getElem?_getD]
   rw[List.getElem?_map,List.getElem?_eq_getElem hi2];rfl
  have hm:rows.getD i []∈rows:=getD_mem _ _ _ hi2
  rw[e]
  refine⟨hr _ hm,(by decide:(1:Int)≠0),?_,?_,(by decide +kernel:(1:Int).natAbs<BIG)⟩
  ·
   intro j hj
   simp only[red,Nat.zero_add]
   have:((1:Int):Rat)=1:=rfl
   rw[this,Rat.one_mul];rfl
  ·
   intro y hy
   have:=hb _ hm y hy
   have:10000<BIG:=by decide +kernel
   omega
 ·
  simp only[det];rfl
end Rb
namespace Rb
open Su111
def A4 (c r:List Nat)(T:List (List Nat)):List (List Int):=
 ((
  List.range (T.length-1)).map fun j=>(List.range T.length).map fun i=>
  (if i=j then ((10^c.length:Nat):Int) else 0)-((P (Su112.line c r) (T.getD i []) (T.getD j []):Nat):Int))++
 [(List.range T.length).map fun i=>((ow (Su112.line c r) (T.getD i []):Nat):Int),(List.range T.length).map fun _=>((10^c.length:Nat):Int)]
theorem rowsOf_len (c r:List Nat)(T:List (List Nat))(h:0<T.length):(A4 c r T).length=T.length+1:=by
 simp[A4];omega
theorem rowsOf_lens (c r:List Nat)(T:List (List Nat)):∀x∈A4 c r T,x.length=T.length:=by
 intro x hx
 simp only[A4,List.mem_append,List.mem_map,List.mem_cons,List.mem_nil_iff,or_false] at hx
 rcases hx with ⟨j,_,e⟩ | e | e
 ·
  rw[←e];simp
 ·
  rw[e];simp
 ·
  rw[e];simp
theorem Qf_bal (c r:List Nat)(T:List (List Nat))(j i:Nat)(hj:j+1<T.length)(hi:i<T.length):
  Qf (A4 c r T) j i=bal (RT (Su112.line c r) T) (DD (Su112.line c r)) j i:=by
 have e:(A4 c r T).getD j []=(List.range T.length).map fun i=>
  (if i=j then ((10^c.length:Nat):Int) else 0)-((P (Su112.line c r) (T.getD i []) (T.getD j []):Nat):Int):=by
  simp only[A4,List.getD_eq_getElem?_getD]
  rw[List.getElem?_append_left (by simp;omega),List.getElem?_map,List.getElem?_range (by omega)]
  rfl
 simp only[Qf,bal]
 rw[e,getD_map_int _ _ 0 i (by simp[hi])]
 have e2:(List.range T.length).getD i 0=i:=by
  rw[List.getD_eq_getElem?_getD,List.getElem?_range hi];rfl
 rw[e2,Rat.intCast_sub]
 have e3:(((P (Su112.line c r) (T.getD i []) (T.getD j []):Nat):Int):Rat)=RT (Su112.line c r) T i j:=rfl
 rw[e3]
 by_cases q:i=j
 ·
  rw[if_pos q,if_pos q];rfl
 ·
  rw[if_neg q,if_neg q];rfl
theorem Qf_ow (c r:List Nat)(T:List (List Nat))(i:Nat)(hp:0<T.length)(hi:i<T.length):
  Qf (A4 c r T) (T.length-1) i=((ow (Su112.line c r) (T.getD i []):Nat):Rat):=by
 have e:(A4 c r T).getD (T.length-1) []=(List.range T.length).map fun i=>((ow (Su112.line c r) (T.getD i []):Nat):Int):=by
  simp only[A4,List.getD_eq_getElem?_getD]
  rw[List.getElem?_append_right (by simp)]
  simp
 simp only[Qf]
 rw[e,getD_map_int _ _ 0 i (by simp[hi])]
 have e2:(List.range T.length).getD i 0=i:=by
  rw[List.getD_eq_getElem?_getD,List.getElem?_range hi];rfl
 rw[e2];rfl
theorem Qf_all (c r:List Nat)(T:List (List Nat))(i:Nat)(hp:0<T.length)(hi:i<T.length):
  Qf (A4 c r T) (T.length-1+1) i=DD (Su112.line c r):=by
 have e:(A4 c r T).getD (T.length-1+1) []=(List.range T.length).map fun _=>((10^c.length:Nat):Int):=by
  simp only[A4,List.getD_eq_getElem?_getD]
  rw[List.getElem?_append_right (by simp)]
  simp
 simp only[Qf]
 rw[e,getD_map_int _ _ 0 i (by simp[hi])]
 rfl
theorem sum_le_map {α:Type}(f g:α→Nat)(l:List α)(h:∀x∈l,f x≤g x):(l.map f).sum≤(l.map g).sum:=by
 induction l with
 | nil=>exact Nat.le_refl _
 |
  cons x l ih=>
  rw[List.map_cons,List.map_cons,List.sum_cons,List.sum_cons]
  have:=ih (fun y hy=>h y (by simp[hy]))
  have:=h x (by simp)
  omega
theorem P_le (c r s t:List Nat)(hc:okCh c):P (Su112.line c r) s t≤10^c.length:=by
 rw[P_hours c r s t hc,←tot_hours c r s hc]
 apply sum_le_map
 intro x _
 split
 ·
  omega
 ·
  omega
theorem ow_le (c r s:List Nat)(hc:okCh c):ow (Su112.line c r) s≤10^c.length:=by
 rw[ow_hours c r s hc,←tot_hours c r s hc]
 apply sum_le_map
 intro x _
 split
 ·
  omega
 ·
  omega
theorem pow_le (n:Nat)(h:n≤4):10^n≤10000:=by
 have:10^n≤10^4:=Nat.pow_le_pow_right (by decide) h
 omega
theorem rowsOf_small (c r:List Nat)(T:List (List Nat))(hc:okCh c)(hl:c.length≤4):∀x∈A4 c r T,∀y∈x,y.natAbs≤10000:=by
 have hp:=pow_le c.length hl
 intro x hx y hy
 simp only[A4,List.mem_append,List.mem_map,List.mem_cons,List.mem_nil_iff,or_false] at hx
 rcases hx with ⟨j,_,e⟩ | e | e
 ·
  rw[←e] at hy
  obtain⟨i,_,e2⟩:=List.mem_map.mp hy
  have:=P_le c r (T.getD i []) (T.getD j []) hc
  rw[←e2]
  split<;>omega
 ·
  rw[e] at hy
  obtain⟨i,_,e2⟩:=List.mem_map.mp hy
  have:=ow_le c r (T.getD i []) hc
  rw[←e2];omega
 ·
  rw[e] at hy
  obtain⟨i,_,e2⟩:=List.mem_map.mp hy
  rw[←e2,Int.natAbs_natCast];exact hp
theorem Qf_bd (rows:List (List Int))(h:∀x∈rows,∀y∈x,y.natAbs≤10000)(j i:Nat):Bd ((10000:Nat):Rat) (Qf rows j i):=by
 have key:((rows.getD j []).getD i 0).natAbs≤10000:=by
  by_cases hj:j<rows.length
  ·
   by_cases hi:i<(rows.getD j []).length
   ·
    exact h _ (getD_mem _ _ _ hj) _ (getD_mem _ _ _ hi)
   ·
    rw[List.getD_eq_getElem?_getD (l:=rows.getD j []),List.getElem?_eq_none (by omega)];decide
  ·
   have:rows.getD j []=[]:=by rw[List.getD_eq_getElem?_getD,List.getElem?_eq_none (by omega)];rfl
   rw[this];simp
 simp only[Qf]
 generalize (rows.getD j []).getD i 0=z at key
 have h1:z≤10000:=by omega
 have h2:-10000≤z:=by omega
 have c1:=Rat.intCast_le_intCast.mpr h1
 have c2:=Rat.intCast_le_intCast.mpr h2
 have e1:((10000:Int):Rat)=((10000:Nat):Rat):=rfl
 have e2:((-10000:Int):Rat)=-((10000:Nat):Rat):=rfl
 rw[e1] at c1
 rw[e2] at c2
 exact⟨c2,c1⟩
structure Tord (r:List Nat)(T:List (List Nat)):Prop where
 perm:T.Perm (states r)
 last:T.getLast?=some r
theorem states_len_le {c r:List Nat}(F:Fine c r):(states r).length≤27:=by
 have key:∀(l:List Nat) (a:Nat),(l.map fun x=>x+1).foldl (fun x y=>x*y) a=a*(states l).length:=by
  intro l
  induction l with
  | nil=>intro a;simp[states]
  |
   cons x l ih=>
   intro a
   rw[List.map_cons,List.foldl_cons,ih]
   simp only[states,List.length_flatMap,List.length_map]
   have:((List.range (x+1)).map fun _=>(states l).length).sum=(x+1)*(states l).length:=by
    rw[List.map_const',List.sum_replicate_nat,List.length_range]
   rw[this,Nat.mul_assoc]
 have h:=F.fit
 unfold Su112.fits at h
 rw[key r 1] at h
 have:=of_decide_eq_true h
 have e:Su111.STATES=27:=rfl
 omega
variable {c r:List Nat}{T:List (List Nat)}
theorem det_Qf (k:Nat)(hk:k+1≤T.length):det k (Qf (A4 c r T))=det k (bal (RT (Su112.line c r) T) (DD (Su112.line c r))):=
 det_congr (fun j i hj hi=>Qf_bal c r T j i (by omega) (by omega))
theorem sys (F:Fine c r)(O:Tord r T):Sys T.length (Qf (A4 c r T)):=by
 have Or:=F.ord T O.perm O.last
 have hpos:=Or.pos
 have hl:=O.perm.length_eq
 have h27:=states_len_le F
 have hl4:c.length≤4:=by have:=F.lens;have:=F.few;omega
 have C:=chain (Su112.line c r) F.wts T Or
 have lp:=lead_pos C (by omega)
 refine⟨by omega,by omega,fun j i=>⟨_,rfl⟩,Qf_bd _ (rowsOf_small c r T F.ch hl4),?_⟩
 intro k
 induction k using Nat.strongRecOn with
 |
  ind k ih=>
  intro hk h0
  have hd:=det_step (Qf (A4 c r T)) k (fun i hi=>ih i hi (by omega))
  rw[h0,Rat.mul_zero,det_Qf (k+1) (by omega)] at hd
  have:=lp (k+1) (by omega)
  rw[hd] at this
  exact absurd this (by decide)
theorem minor_Qf (hp:0<T.length)(p:Nat→Rat):minor (Qf (A4 c r T)) (T.length-1) p (T.length-1)=
  minor (bal (RT (Su112.line c r) T) (DD (Su112.line c r))) (T.length-1) p (T.length-1):=by
 apply det_congr
 intro j i hj hi
 simp only[brd]
 by_cases e:j<T.length-1
 ·
  rw[if_pos e,if_pos e]
  apply Qf_bal c r T j _ (by omega)
  split<;>omega
 ·
  rw[if_neg e,if_neg e]
theorem left_rate (F:Fine c r)(O:Tord r T)(l0 l1:Int)
  (h0:(l0:Rat)=minor (Qf (A4 c r T)) (T.length-1) (Qf (A4 c r T) (T.length-1)) (T.length-1))
  (h1:(l1:Rat)=minor (Qf (A4 c r T)) (T.length-1) (Qf (A4 c r T) (T.length-1+1)) (T.length-1)):
  0<l1∧Su112.rate c r=Su111.low l0 l1.toNat:=by
 have Or:=F.ord T O.perm O.last
 have hpos:=Or.pos
 have C:=chain (Su112.line c r) F.wts T Or
 obtain⟨st,sp,hm⟩:=often C (by omega)
 rw[minor_Qf hpos,hm] at h0 h1
 have e0:Am T.length (fun i=>cofc (bal (RT (Su112.line c r) T) (DD (Su112.line c r))) (T.length-1) (T.length-1) i*Qf (A4 c r T) (T.length-1) i)=
   Am T.length (fun i=>cofc (bal (RT (Su112.line c r) T) (DD (Su112.line c r))) (T.length-1) (T.length-1) i*((ow (Su112.line c r) (T.getD i []):Nat):Rat)):=
  Ar (fun i hi=>by rw[Qf_ow c r T i hpos hi])
 have e1:Am T.length (fun i=>cofc (bal (RT (Su112.line c r) T) (DD (Su112.line c r))) (T.length-1) (T.length-1) i*Qf (A4 c r T) (T.length-1+1) i)=
   Am T.length (fun i=>cofc (bal (RT (Su112.line c r) T) (DD (Su112.line c r))) (T.length-1) (T.length-1) i)*DD (Su112.line c r):=by
  rw[←sumN_mulr]
  exact Ar (fun i hi=>by rw[Qf_all c r T i hpos hi])
 rw[e0] at h0
 rw[e1] at h1
 have hD:(0:Rat)<DD (Su112.line c r):=C.pos
 have hl1:(0:Rat)<(l1:Rat):=by rw[h1];exact Rat.mul_pos sp hD
 have hl:0<l1:=Rat.intCast_lt_intCast.mp hl1
 obtain⟨cn,vl⟩:=F.rate T O.perm _ st sp
 refine⟨hl,canon_inj cn (low_canon _ _ (by omega)) ?_⟩
 rw[vl,low_val _ _ (by omega),h0]
 have e2:((l1.toNat:Nat):Rat)=(l1:Rat):=by
  have:((l1.toNat:Nat):Int)=l1:=Int.toNat_of_nonneg (by omega)
  have h3:(((l1.toNat:Nat):Int):Rat)=(l1:Rat):=by rw[this]
  exact h3
 rw[e2,h1,Rat.mul_comm (DD (Su112.line c r))]
end Rb
namespace Wk
open PySem PySem.Spec PyProof.Rows L2
def top (i:Nat):Stmt:=PySem.Challenge.pw_roombetween_s01_answers.main.body.getD i (.Pass ⟨0,0,0,0⟩)
abbrev sAhead:Stmt:=top 1
abbrev sHours:Stmt:=top 2
abbrev sFilled:Stmt:=top 3
abbrev sCommon:Stmt:=top 5
abbrev sLowest:Stmt:=top 6
abbrev sMore:Stmt:=top 7
abbrev sAllF:Stmt:=top 12
abbrev sOrdF:Stmt:=top 13
abbrev sEqs:Stmt:=top 14
abbrev sAtM:Stmt:=top 15
abbrev sWoF:Stmt:=top 16
abbrev sLast:Stmt:=top 17
abbrev sPieces:Stmt:=top 18
abbrev sCount:Stmt:=top 26
abbrev sIsWay:Stmt:=top 27
abbrev sOneMore:Stmt:=top 28
abbrev sWaysOf:Stmt:=top 29
abbrev sDiff:Stmt:=top 8
abbrev sFMost:Stmt:=top 9
abbrev sFFew:Stmt:=top 10
abbrev sOneMach:Stmt:=top 20
abbrev sAllO:Stmt:=top 21
abbrev sInO:Stmt:=top 22
end Wk
namespace Wk
open PySem PySem.Spec PyProof.Rows L2
section
variable {P:Program}{w:World}{K:PySem.W.Frag}{mg:Str→Option Value}{base:Heap}
def spCommon:Sp:=fun vs H Q _=>∃(a b:Int),vs=[.int a,.int b]∧0≤a∧0≤b∧Q (.int (Nat.gcd a.toNat b.toNat:Nat)) H
def muCommon:L2.St→Hp→Nat:=fun σ _=>match σ with
 | [_,some (.int b),_]=>b.toNat
 | _=>0
theorem gcd_step (a b:Int)(ha:0≤a)(hb:0<b):Nat.gcd b.toNat (a%b).toNat=Nat.gcd a.toNat b.toNat:=by
 obtain⟨m,rfl⟩:=Int.eq_ofNat_of_zero_le ha
 obtain⟨n,rfl⟩:=Int.eq_ofNat_of_zero_le (Int.le_of_lt hb)
 have e:((m:Int)%(n:Int)).toNat=m%n:=by omega
 rw[e,Int.toNat_natCast,Int.toNat_natCast,Nat.gcd_comm n (m%n),Nat.gcd_comm m n,Nat.gcd_rec n m]
theorem scCommon:Aq ["one","other","rest"] ["one","other"] (Ag sCommon):=⟨rfl,rfl,rfl,by decide +kernel,rfl,by decide +kernel,by decide +kernel⟩
theorem ok_common {f:Addr}{fd:FuncData}(F:Fun K "common" "common" sCommon f fd):Ah P w K mg base CX0 1 f fd ["one","other"] spCommon:=by
 refine F.ok scCommon (fun vs H Q E h=>?_) (fun cdv A outer s H vs Q E hr h=>?_)
 ·
  obtain⟨a,b,rfl,_⟩:=h
  rfl
 ·
  obtain⟨a,b,rfl,ha,hb,k⟩:=h
  refine⟨_,Ad (ps_while PassesOwn.never (AB op_ne (pv 1) Ao (AA _))
    (Ad (As (i:=2) scCommon.nd rfl (Or.inl rfl) (AH op_mod (pv 0) (pv 1)))
    (Ad (As (i:=0) scCommon.nd rfl (Or.inl rfl) (pv 1))
    (Af (As (i:=1) scCommon.nd rfl (Or.inl rfl) (pv 2))))))
   (Af (Al (pv 0))),?_⟩
  refine while_by (fun σ H'=>∃(a' b':Int) (r:Option V),σ=[some (.int a'),some (.int b'),r]∧0≤a'∧0≤b'∧Nat.gcd a'.toNat b'.toNat=Nat.gcd a.toNat b.toNat∧H'=H) muCommon
   ⟨a,b,none,rfl,ha,hb,rfl,rfl⟩ ?_ ?_
  ·
   rintro σ H' ⟨a',b',r,rfl,ha',hb',hg,rfl⟩
   refine⟨_,rfl,rfl,_,rfl,?_⟩
   by_cases e:b'=0
   ·
    subst e
    refine A3 ?_
    refine⟨_,rfl,?_⟩
    rw[Int.toNat_zero,Nat.gcd_zero_right] at hg
    have:(V.int a')=V.int ((Nat.gcd a.toNat b.toNat:Nat):Int):=by rw[←hg,Int.toNat_of_nonneg ha']
    rw[this];exact k
   ·
    have:(!decide (V.int b'=V.int 0))=true:=by simp[e]
    rw[this]
    refine AY ?_
    have hp:0<b':=by omega
    refine⟨_,rfl,_,rfl,_,_,rfl,rfl,hp,_,rfl,_,rfl,?_⟩
    refine⟨⟨b',a'%b',some (.int (a'%b')),rfl,hb',Int.emod_nonneg _ e,(gcd_step a' b' ha' hp).trans hg,rfl⟩,?_⟩
    show (a'%b').toNat<b'.toNat
    have:=Int.emod_lt_of_pos a' hp
    have:=Int.emod_nonneg a' e
    omega
  ·
   rintro σ H' Q1 Q2 hq ⟨x,h1,h2,k',h3,h4⟩
   exact⟨x,h1,h2,k',h3,hq _ _ h4⟩
def spLowest:Sp:=fun vs H Q _=>∃(x:Int) (n:Nat),vs=[.int x,.int n]∧0<n∧n<2^1200∧
 ∀p,H p=none→Q (.ref p) (upd H p (.tup [.int (Su111.low x n).1,.int ((Su111.low x n).2:Nat)]))
theorem scLowest:Aq ["above","below","shared"] ["above","below"] (Ag sLowest):=⟨rfl,rfl,rfl,by decide +kernel,rfl,by decide +kernel,by decide +kernel⟩
theorem abs_toNat (x:Int):(if x<0 then -x else x).toNat=x.natAbs:=by split<;>omega
theorem ok_lowest {f fc:Addr}{fd fdc:FuncData}(F:Fun K "lowest" "lowest" sLowest f fd)(FC:Fun K "common" "common" sCommon fc fdc)(bC:An K fdc ["one","other"] [])
  (mgC:mg "common"=some (.ref fc))(mgA:mg "abs"=none):Ah P w K mg base CX0 2 f fd ["above","below"] spLowest:=by
 have GC:Ah P w K mg base CX0 1 fc fdc ["one","other"] spCommon:=ok_common FC
 refine F.ok scLowest (fun vs H Q E h=>?_) (fun cdv A outer s H vs Q E hr h=>?_)
 ·
  obtain⟨x,n,rfl,_⟩:=h
  rfl
 ·
  obtain⟨x,n,rfl,hn,hb,k⟩:=h
  have hg:0<Nat.gcd x.natAbs n:=Nat.gcd_pos_of_pos_right _ hn
  have hgl:Nat.gcd x.natAbs n≤n:=Nat.gcd_le_right _ hn
  have hbig:(2:Nat)^1200<2^2000:=Nat.pow_lt_pow_right (by decide) (by decide)
  refine⟨_,Ad (As (i:=2) scLowest.nd rfl (Or.inl rfl) (Aw GC hr rfl mgC FC.kp bC .nil Ap (Aa (Az call_abs rfl mgA (by decide +kernel) (Aa (pv 0) Ac)) (Aa (pv 1) Ac))))
   (Af (Al (A6 (Aa (AH op_fdivB (pv 0) (pv 2)) (Aa (AH op_fdivB (pv 1) (pv 2)) Ac))))),?_⟩
  refine⟨_,rfl,_,rfl,_,rfl,_,_,rfl,(by split<;>omega),(by omega),?_⟩
  have e1:(Nat.gcd (if x<0 then -x else x).toNat ((n:Nat):Int).toNat)=Nat.gcd x.natAbs n:=by rw[abs_toNat,Int.toNat_natCast]
  rw[e1]
  refine⟨_,rfl,_,rfl,_,_,rfl,rfl,⟨by omega,by rw[Int.natAbs_natCast];omega⟩,_,rfl,_,rfl,_,_,rfl,rfl,⟨by omega,by rw[Int.natAbs_natCast];omega⟩,(by show 2≤sizeLine;decide),fun p hp=>?_⟩
  have e2:Su111.low x n=(x/Int.ofNat (Nat.gcd x.natAbs n),n/Nat.gcd x.natAbs n):=by
   unfold Su111.low
   rw[if_neg (by omega)]
  have q:=k p hp
  rw[e2] at q
  have e3:(x.fdiv ((Nat.gcd x.natAbs n:Nat):Int))=x/Int.ofNat (Nat.gcd x.natAbs n):=Int.fdiv_eq_ediv_of_nonneg x (by omega)
  have e4:(((n:Nat):Int).fdiv ((Nat.gcd x.natAbs n:Nat):Int))=((n/Nat.gcd x.natAbs n:Nat):Int):=by
   rw[Int.fdiv_eq_ediv_of_nonneg _ (by omega)];rfl
  show Q (V.ref p) (upd H p (HO.tup [V.int (x.fdiv ((Nat.gcd x.natAbs n:Nat):Int)),V.int (((n:Nat):Int).fdiv ((Nat.gcd x.natAbs n:Nat):Int))]))
  rw[e3,e4]
  exact q
def spMore (K:PySem.W.Frag):Sp:=fun vs H Q _=>∃(a b:Addr) (f g:Su111.Fr),vs=[.ref a,.ref b]∧SqT K H a [.int f.1,.int (f.2:Nat)]∧SqT K H b [.int g.1,.int (g.2:Nat)]∧
 f.1.natAbs<2^1200∧f.2<2^1200∧g.1.natAbs<2^1200∧g.2<2^1200∧Q (.bl (Su111.less g f)) H
theorem scMore:Aq ["one","other"] ["one","other"] (Ag sMore):=⟨rfl,rfl,rfl,by decide +kernel,rfl,by decide +kernel,by decide +kernel⟩
theorem ok_more {f:Addr}{fd:FuncData}(F:Fun K "is_more" "is_more" sMore f fd):Ah P w K mg base CX0 1 f fd ["one","other"] (spMore K):=by
 refine F.ok scMore (fun vs H Q E h=>?_) (fun cdv A outer s H vs Q E hr h=>?_)
 ·
  obtain⟨a,b,f,g,rfl,_⟩:=h
  rfl
 ·
  obtain⟨a,b,f,g,rfl,ha,hb,b1,b2,b3,b4,k⟩:=h
  have hbig:(2:Nat)^1200<2^2000:=Nat.pow_lt_pow_right (by decide) (by decide)
  refine⟨_,Af (Al (pe_cmpR op_gt (AH op_mulB (AK ix_tup (pv 0) Ao (fun _ _=>rfl)) (AK ix_tup (pv 1) Ao (fun _ _=>rfl)))
   (AH op_mulB (AK ix_tup (pv 1) Ao (fun _ _=>rfl)) (AK ix_tup (pv 0) Ao (fun _ _=>rfl))) (AA _))),?_⟩
  refine⟨_,rfl,_,_,_,_,rfl,rfl,ha,rfl,_,rfl,_,_,_,_,rfl,rfl,hb,rfl,_,_,rfl,rfl,⟨by omega,by rw[Int.natAbs_natCast];omega⟩,_,rfl,_,_,_,_,rfl,rfl,hb,rfl,_,rfl,_,_,_,_,rfl,rfl,ha,rfl,_,_,rfl,rfl,
   ⟨by omega,by rw[Int.natAbs_natCast];omega⟩,_,_,rfl,rfl,?_⟩
  exact k
end
end Wk
namespace Wk
open PySem PySem.Spec PyProof.Rows L2 Rb
theorem Ae.upd {H:Hp}{p:Addr}{o:HO}(hp:H p=none):Ae H (upd H p o):=fun b u e=>by
 rw[Ai (Aj e hp)];exact e
theorem paired_append {α β:Type}{F:α→β→Prop}:∀{l1:List α} {l2:List β} {k1:List α} {k2:List β},Paired F l1 l2→Paired F k1 k2→Paired F (l1++k1) (l2++k2)
 | _,_,_,_,.nil,h=>h
 | _,_,_,_,.cons h t,h2=>.cons h (paired_append t h2)
theorem AF {α β:Type}{F:α→β→Prop}:∀{l1:List α} {l2:List β} {i:Nat} {a:α},Paired F l1 l2→l1[i]?=some a→∃b,l2[i]?=some b∧F a b
 | _,_,_,_,.nil,h=>by simp at h
 | _,_,0,_,.cons h _,e=>by simp at e;subst e;exact⟨_,rfl,h⟩
 |
  _,_,i+1,_,.cons _ t,e=>by
  obtain⟨b,h1,h2⟩:=AF t (show _=_ by simpa using e)
  exact⟨b,by simpa using h1,h2⟩
theorem AJ {α:Type}{l:List α}{i:Nat}{x:α}(h:l[i]?=some x):l.take (i+1)=l.take i++[x]:=by
 rw[List.take_add_one,h];rfl
theorem AL {ts:List Addr}{i:Nat}{y:V}(h:(ts.map V.ref)[i]?=some y):∃t,ts[i]?=some t∧y=V.ref t:=by
 rw[List.getElem?_map] at h
 cases e:ts[i]? with
 | none=>rw[e] at h;cases h
 | some t=>rw[e] at h;exact⟨t,rfl,(Option.some.inj h).symm⟩
def nV (n:Nat):V:=.int ((n:Nat):Int)
def bV (b:Bool):V:=.int (bi b)
def WkAt (H:Hp)(a:Addr)(w:List Bool):Prop:=H a=some (.tup (w.map bV))
def HrAt (H:Hp)(t:Addr)(x:Nat×List Bool):Prop:=∃wa,H t=some (.tup [nV x.1,.ref wa])∧WkAt H wa x.2
def HoursAt (H:Hp)(a:Addr)(l:List (Nat×List Bool)):Prop:=∃ts:List Addr,H a=some (.lst (ts.map V.ref))∧Paired (HrAt H) ts l
theorem HrAt.same {H H':Hp}(s:Ae H H'){t:Addr}{x:Nat×List Bool}(h:HrAt H t x):HrAt H' t x:=by
 obtain⟨wa,h1,h2⟩:=h
 exact⟨wa,s _ _ h1,s _ _ h2⟩
section
variable {P:Program}{w:World}{K:PySem.W.Frag}{mg:Str→Option Value}{base:Heap}
def spAhead:Sp:=fun vs H Q _=>∃(a:Addr) (found:List (Nat×List Bool)) (p:Nat) (pc pl:Bool),vs=[.ref a,nV p,.bl pc,.bl pl]∧HoursAt H a found∧p≤9∧found.length≤100∧
 (pl=true∨∀x∈found,x.2≠[])∧(∀x∈found,x.2.length≤10)∧∀(H':Hp) (b:Addr),Ae H H'→HoursAt H' b (aheadR found p pc pl)→Q (.ref b) H'
theorem scAhead:Aq ["found","chance","has_piece","has_place","grown","weight","working"] ["found","chance","has_piece","has_place"] (Ag sAhead):=⟨rfl,rfl,rfl,by decide +kernel,rfl,by decide +kernel,by decide +kernel⟩
theorem ahead_append (l k:List (Nat×List Bool))(p:Nat)(pc pl:Bool):aheadR (l++k) p pc pl=aheadR l p pc pl++aheadR k p pc pl:=by
 unfold aheadR;rw[List.flatMap_append]
theorem ahead_len (p:Nat)(pc pl:Bool):∀l:List (Nat×List Bool),(aheadR l p pc pl).length≤2*l.length
 | []=>by simp[aheadR]
 |
  x::l=>by
  have h:=ahead_len p pc pl l
  have e:aheadR (x::l) p pc pl=aheadR [x] p pc pl++aheadR l p pc pl:=ahead_append [x] l p pc pl
  rw[e,List.length_append,List.length_cons]
  have:(aheadR [x] p pc pl).length≤2:=by
   unfold aheadR
   rw[List.flatMap_cons,List.flatMap_nil,List.append_nil]
   split<;>simp
  omega
theorem bV_one (b:Bool):decide (bV b=V.int 1)=b:=by cases b<;>rfl
structure Mk (H0 H1:Hp)(g:Addr)(l:List (Nat×List Bool)):Prop where
 same:Ae H0 H1
 new:H0 g=none
 at_:HoursAt H1 g l
theorem Mk.grow {H0 H1 H2:Hp}{g q t:Addr}{l:List (Nat×List Bool)}{W:Nat}{u:List Bool}(M:Mk H0 H1 g l)(s:Ae H1 H2)(hq:WkAt H2 q u)(ht:H2 t=none)(hl:l.length<1000):
  ∃gs:List V,(L2.upd H2 t (.tup [nV W,.ref q])) g=some (.lst gs)∧gs.length<sizeLine∧Mk H0 (L2.upd (L2.upd H2 t (.tup [nV W,.ref q])) g (.lst (gs++[.ref t]))) g (l++[(W,u)])∧
   ∀b o,H1 b=some o→b≠g→(L2.upd (L2.upd H2 t (.tup [nV W,.ref q])) g (.lst (gs++[.ref t]))) b=some o:=by
 obtain⟨gs,h1,h2⟩:=M.at_
 have e2:=s _ _ h1
 have ngt:g≠t:=Aj e2 ht
 have nqt:q≠t:=Aj hq ht
 have ngq:q≠g:=fun z=>by rw[z] at hq;unfold WkAt at hq;rw[e2] at hq;cases hq
 have keep:∀b o,H1 b=some o→b≠g→(L2.upd (L2.upd H2 t (.tup [nV W,.ref q])) g (.lst (gs.map V.ref++[.ref t]))) b=some o:=fun b o e hb=>by
  rw[Ai hb,Ai (Aj (s _ _ e) ht)];exact s _ _ e
 refine⟨gs.map V.ref,by rw[Ai ngt];exact e2,?_,⟨?_,M.new,gs++[t],?_,?_⟩,keep⟩
 ·
  rw[List.length_map,h2.length];exact AC (Nat.le_of_lt hl)
 ·
  intro b o e
  exact keep b o (M.same _ _ e) (Aj e M.new)
 ·
  rw[Ab,List.map_append];rfl
 ·
  refine Paired.snoc (Paired.mapP h2 fun t' x ⟨wa,q1,q2⟩=>⟨wa,keep _ _ q1 ?_,keep _ _ q2 ?_⟩) ⟨q,?_,?_⟩
  ·
   intro z;rw[z,h1] at q1;cases q1
  ·
   intro z;unfold WkAt at q2;rw[z,h1] at q2;cases q2
  ·
   rw[Ai (Ne.symm ngt),Ab]
  ·
   show _=_;rw[Ai ngq,Ai nqt];exact hq
theorem ahead_one_t {x:Nat×List Bool}{p:Nat}{pc pl:Bool}(h:(pc&&(pl||x.2.headD false))=true):aheadR [x] p pc pl=[(x.1*p,true::x.2),(x.1*(10-p),false::x.2)]:=by
 unfold aheadR;rw[List.flatMap_cons,List.flatMap_nil,List.append_nil,if_pos h]
theorem ahead_one_f {x:Nat×List Bool}{p:Nat}{pc pl:Bool}(h:(pc&&(pl||x.2.headD false))=false):aheadR [x] p pc pl=[(x.1*10,false::x.2)]:=by
 unfold aheadR;rw[List.flatMap_cons,List.flatMap_nil,List.append_nil,if_neg (by rw[h];decide)]
theorem ok_ahead {f:Addr}{fd:FuncData}(F:Fun K "with_machine_ahead" "with_machine_ahead" sAhead f fd):Ah P w K mg base CX0 1 f fd ["found","chance","has_piece","has_place"] spAhead:=by
 refine F.ok scAhead (fun vs H Q E h=>?_) (fun cdv A outer s H vs Q E hr h=>?_)
 ·
  obtain⟨a,found,p,pc,pl,rfl,_⟩:=h
  rfl
 ·
  obtain⟨a,found,p,pc,pl,rfl,⟨ts,ha,hts⟩,hp,hlen,hne,hsh,k⟩:=h
  refine⟨_,Ad (As (i:=4) scAhead.nd rfl (Or.inl rfl) (AD Ac))
   (Ad (ps_for PassesOwn.never rfl (A1 (pv 0)) (pg_tup rfl (AS (Au (i:=5) scAhead.nd rfl (Or.inl rfl)) (AS (Au (i:=6) scAhead.nd rfl (Or.inl rfl)) pgs_nil)))
    (Af (AN (PW.pt (pw_and (pt_val (pv 2)) (pw_and1 (PW.pt (pw_or (pt_val (pv 3)) (pw_or1 (AB op_eq (AK ix_tup (pv 6) Ao (fun _ _=>rfl)) Ao (AA _))))))))
     (Ad (ps_expr (pe_bm PySem.F.plainAttrs_list PySem.F.slot_list_append PySem.F.type_list_append mt_append (pv 4) (Aa (A6 (Aa (AH op_mul (pv 5) (pv 1)) (Aa (AH op_catT (A6 (Aa Ao Ac)) (pv 6)) Ac))) Ac)))
     (Af (ps_expr (pe_bm PySem.F.plainAttrs_list PySem.F.slot_list_append PySem.F.type_list_append mt_append (pv 4) (Aa (A6 (Aa (AH op_mul (pv 5) (AH op_sub Ao (pv 1))) (Aa (AH op_catT (A6 (Aa Ao Ac)) (pv 6)) Ac))) Ac)))))
     (Af (ps_expr (pe_bm PySem.F.plainAttrs_list PySem.F.slot_list_append PySem.F.type_list_append mt_append (pv 4) (Aa (A6 (Aa (AH op_mul (pv 5) Ao) (Aa (AH op_catT (A6 (Aa Ao Ac)) (pv 6)) Ac))) Ac)))))))
   (Af (Al (pv 4)))),?_⟩
  refine⟨Nat.zero_le _,fun g hg=>?_⟩
  have M0:Mk H (upd H g (.lst [])) g (aheadR (found.take 0) p pc pl):=⟨Ae.upd hg,hg,[],Ab,.nil⟩
  refine⟨_,rfl,a,rfl,⟨_,SqL.of (M0.same _ _ ha)⟩,for_list (K:=K) (a:=a) (xs:=ts.map V.ref) (fun i σ H'=>∃v5 v6:Option V,σ=[some (.ref a),some (nV p),some (.bl pc),some (.bl pl),some (.ref g),v5,v6]∧Mk H H' g (aheadR (found.take i) p pc pl))
   ⟨none,none,rfl,M0⟩ (fun i σ H' _ ⟨_,_,_,M⟩=>SqL.of (M.same _ _ ha)) ?_ ?_⟩
  ·
   rintro i y σ H' hi ⟨v5,v6,rfl,M⟩
   obtain⟨t,hti,rfl⟩:=AL hi
   obtain⟨x,hx,hxt⟩:=AF hts hti
   obtain⟨wa,h1,h2⟩:=hxt.same M.same
   have hxm:x∈found:=List.mem_of_getElem? hx
   have hxl:=hsh x hxm
   have hll:(aheadR (found.take i) p pc pl).length<900:=by
    have:=ahead_len p pc pl (found.take i)
    rw[List.length_take] at this
    omega
   have nwg:wa≠g:=fun z=>by
    obtain⟨gs,q1,_⟩:=M.at_
    unfold WkAt at h2;rw[z,q1] at h2;cases h2
   refine⟨t,_,rfl,SqT.of h1,rfl,_,_,rfl,_,_,rfl,rfl,?_⟩
   have put:∀(b:Bool) (W:Nat) (z:Int),z=((W:Nat):Int)→∀(H1:Hp) (l:List (Nat×List Bool)),Mk H H1 g l→WkAt H1 wa x.2→l.length<1000→∀(Q1:Hp→Prop),
     (∀H2,Mk H H2 g (l++[(W,b::x.2)])→WkAt H2 wa x.2→Q1 H2)→∀t1,H1 t1=none→
     rCatT K (.ref t1) (.ref wa) (upd H1 t1 (.tup [bV b])) (fun y H2=>2≤sizeLine∧∀p2,H2 p2=none→rAppend (.ref g) [.ref p2] (L2.upd H2 p2 (.tup [.int z,y])) (fun _ H3=>Q1 H3)):=by
    intro b W z hz H1 l M1 hw hl Q1 hQ t1 ht1
    subst hz
    have s1:Ae H1 (upd H1 t1 (.tup [bV b])):=Ae.upd ht1
    refine⟨t1,wa,[bV b],x.2.map bV,rfl,rfl,SqT.of Ab,SqT.of (s1 _ _ hw),by simp,?_,fun e=>⟨by decide,fun p2 hp2=>?_⟩,fun e q hq=>⟨by decide,fun p2 hp2=>?_⟩⟩
    ·
     rw[List.length_map];show 1+x.2.length≤sizeLine
     have:=AC (n:=1+x.2.length) (by omega)
     omega
    ·
     have ex:x.2=[]:=by simpa using e
     obtain⟨gs,a1,a2,a3,a4⟩:=M1.grow (W:=W) (u:=b::x.2) s1 (q:=t1) (by show _=_;rw[Ab,ex];rfl) hp2 hl
     exact⟨g,gs,_,rfl,rfl,a1,a2,hQ _ a3 (a4 _ _ hw nwg)⟩
    ·
     have s2:Ae H1 (upd (upd H1 t1 (.tup [bV b])) q (.tup ([bV b]++x.2.map bV))):=Ae.trans s1 (Ae.upd hq)
     obtain⟨gs,a1,a2,a3,a4⟩:=M1.grow (W:=W) (u:=b::x.2) s2 (q:=q) (by show _=_;rw[Ab];rfl) hp2 hl
     exact⟨g,gs,_,rfl,rfl,a1,a2,hQ _ a3 (a4 _ _ hw nwg)⟩
   have lst:∀H1 l,Mk H H1 g l→∃gs:List V,SqL K H1 g gs:=fun H1 l M1=>by
    obtain⟨gs,q1,_⟩:=M1.at_
    exact⟨_,SqL.of q1⟩
   have e10:(10:Int)-((p:Nat):Int)=((10-p:Nat):Int):=by omega
   have eT:(pc&&(pl||x.2.headD false))=true→aheadR (found.take (i+1)) p pc pl=aheadR (found.take i) p pc pl++[(x.1*p,true::x.2)]++[(x.1*(10-p),false::x.2)]:=fun hc=>by
    rw[AJ hx,ahead_append,ahead_one_t hc,List.append_assoc];rfl
   have eF:(pc&&(pl||x.2.headD false))=false→aheadR (found.take (i+1)) p pc pl=aheadR (found.take i) p pc pl++[(x.1*10,false::x.2)]:=fun hc=>by
    rw[AJ hx,ahead_append,ahead_one_f hc]
   obtain⟨gs0,hgs0⟩:=lst _ _ M
   have hl1:∀y:Nat×List Bool,(aheadR (found.take i) p pc pl++[y]).length<1000:=fun y=>by rw[List.length_append];show _+1<1000;omega
   have pb1:-(2^64:Int)<((p:Nat):Int):=by omega
   have pb2:((p:Nat):Int)<2^64:=by omega
   have pb3:-(2^64:Int)<10-((p:Nat):Int):=by omega
   have pb4:10-((p:Nat):Int)<2^64:=by omega
   cases hpc:pc with
   |
    false=>
    subst hpc
    refine⟨_,rfl,false,rfl,A3 (A3 ?_)⟩
    refine⟨_,rfl,.inl ⟨rfl,_,hgs0⟩,_,rfl,_,_,rfl,rfl,.inr ⟨by decide,by decide⟩,by decide,fun t1 ht1=>⟨_,rfl,?_⟩⟩
    refine put false (x.1*10) _ (by omega) H' _ M h2 (by omega) _ (fun H2 M2 hw2=>?_) t1 ht1
    exact⟨_,_,rfl,by rw[eF rfl];exact M2⟩
   |
    true=>
    subst hpc
    refine⟨_,rfl,true,rfl,AY ?_⟩
    cases hpl:pl with
    |
     true=>
     subst hpl
     refine⟨_,rfl,true,rfl,AY (AY ?_)⟩
     refine⟨_,rfl,.inl ⟨rfl,_,hgs0⟩,_,rfl,_,rfl,_,_,rfl,rfl,.inr ⟨pb1,pb2⟩,by decide,fun t1 ht1=>⟨_,rfl,?_⟩⟩
     refine put true (x.1*p) _ (Int.natCast_mul _ _).symm H' _ M h2 (by omega) _ (fun H2 M2 hw2=>?_) t1 ht1
     obtain⟨gs2,hgs2⟩:=lst _ _ M2
     refine⟨_,rfl,.inl ⟨rfl,_,hgs2⟩,_,rfl,_,rfl,_,_,rfl,rfl,_,_,rfl,rfl,.inr ⟨pb3,pb4⟩,by decide,fun t1 ht1=>⟨_,rfl,?_⟩⟩
     refine put false (x.1*(10-p)) _ (by rw[Int.natCast_mul,←e10]) H2 _ M2 hw2 (hl1 _) _ (fun H3 M3 hw3=>?_) t1 ht1
     exact⟨_,_,rfl,by rw[eT rfl];exact M3⟩
    |
     false=>
     subst hpl
     refine⟨_,rfl,false,rfl,A3 ?_⟩
     have hn:x.2≠[]:=by
      rcases hne with z | z
      ·
       cases z
      ·
       exact z x hxm
     obtain⟨b0,r0,ex0⟩:∃b0 r0,x.2=b0::r0:=by
      cases e0:x.2 with
      | nil=>exact absurd e0 hn
      | cons b0 r0=>exact⟨b0,r0,rfl⟩
     have at0:atI (x.2.map bV) 0=some (bV b0):=by rw[ex0];exact atI_nat (j:=0) rfl
     refine⟨_,rfl,wa,_,0,_,rfl,rfl,SqT.of h2,at0,rfl,_,rfl,?_⟩
     rw[bV_one b0]
     have hd0:x.2.headD false=b0:=by rw[ex0];rfl
     cases hb0:b0 with
     |
      false=>
      refine A3 ?_
      refine⟨_,rfl,.inl ⟨rfl,_,hgs0⟩,_,rfl,_,_,rfl,rfl,.inr ⟨by decide,by decide⟩,by decide,fun t1 ht1=>⟨_,rfl,?_⟩⟩
      refine put false (x.1*10) _ (by omega) H' _ M h2 (by omega) _ (fun H2 M2 hw2=>?_) t1 ht1
      exact⟨_,_,rfl,by rw[eF (by rw[hd0,hb0];rfl)];exact M2⟩
     |
      true=>
      refine AY ?_
      refine⟨_,rfl,.inl ⟨rfl,_,hgs0⟩,_,rfl,_,rfl,_,_,rfl,rfl,.inr ⟨pb1,pb2⟩,by decide,fun t1 ht1=>⟨_,rfl,?_⟩⟩
      refine put true (x.1*p) _ (Int.natCast_mul _ _).symm H' _ M h2 (by omega) _ (fun H2 M2 hw2=>?_) t1 ht1
      obtain⟨gs2,hgs2⟩:=lst _ _ M2
      refine⟨_,rfl,.inl ⟨rfl,_,hgs2⟩,_,rfl,_,rfl,_,_,rfl,rfl,_,_,rfl,rfl,.inr ⟨pb3,pb4⟩,by decide,fun t1 ht1=>⟨_,rfl,?_⟩⟩
      refine put false (x.1*(10-p)) _ (by rw[Int.natCast_mul,←e10]) H2 _ M2 hw2 (hl1 _) _ (fun H3 M3 hw3=>?_) t1 ht1
      exact⟨_,_,rfl,by rw[eT (by rw[hd0,hb0];rfl)];exact M3⟩
  ·
   rintro σ H' ⟨v5,v6,rfl,M⟩
   rw[List.length_map,hts.length,List.take_length] at M
   exact⟨_,rfl,k _ _ M.same M.at_⟩
end
end Wk
namespace Wk
open PySem PySem.Spec PyProof.Rows L2 Rb
def SqA (K:PySem.W.Frag)(H:Hp)(a:Addr)(xs:List V):Prop:=SqL K H a xs∨SqT K H a xs
theorem sqT_same {K:PySem.W.Frag}{H H':Hp}{a:Addr}{xs:List V}(e:Ae H H')(h:SqT K H a xs):SqT K H' a xs:=by
 rcases h with (h | ⟨o,h⟩) | h
 ·
  exact .inl (.inl (e _ _ h))
 ·
  exact .inl (.inr ⟨o,e _ _ h⟩)
 ·
  exact .inr h
theorem SqA.same {K:PySem.W.Frag}{H H':Hp}{a:Addr}{xs:List V}(e:Ae H H')(h:SqA K H a xs):SqA K H' a xs:=h.elim (fun q=>.inl (e.seq q)) (fun q=>.inr (sqT_same e q))
theorem SqA.ix {K:PySem.W.Frag}{H:Hp}{a:Addr}{xs:List V}{i:Int}{v:V}{Q:VK}(h:SqA K H a xs)(hi:atI xs i=some v)(q:Q v H):rIx K (.ref a) (.int i) H Q:=by
 rcases h with h | h
 ·
  exact .inl ⟨a,xs,i,v,rfl,rfl,h,hi,q⟩
 ·
  exact .inr (.inl ⟨a,xs,i,v,rfl,rfl,h,hi,q⟩)
theorem at_nV {l:List Nat}{i:Nat}(h:i<l.length):atI (l.map nV) ((i:Nat):Int)=some (nV (l.getD i 0)):=by
 apply atI_nat
 rw[List.getElem?_map,List.getElem?_eq_getElem h,List.getD_eq_getElem?_getD,List.getElem?_eq_getElem h];rfl
theorem hoursZ_len:∀(Z:List (Bool×Bool)) (c:List Nat),(hoursZ Z c).length≤2^Z.length
 | [],_=>by simp[hoursZ]
 |
  z::Z,c=>by
  have h:=hoursZ_len Z c.tail
  have h2:=ahead_len (c.headD 0) z.1 z.2 (hoursZ Z c.tail)
  simp only[hoursZ,List.length_cons,Nat.pow_succ]
  omega
theorem hoursZ_wid (Z:List (Bool×Bool))(c:List Nat)(x:Nat×List Bool)(h:x∈hoursZ Z c):x.2.length=Z.length:=by
 obtain⟨u,_,e⟩:=hours_wk Z c x h
 rw[e,wkZ_len]
theorem hoursZ_step {m:Nat}{r s c:List Nat}(hm:c.length=m){i:Nat}(hi:i<m):
  hoursZ ((zs m r s).drop i) (c.drop i)=aheadR (hoursZ ((zs m r s).drop (i+1)) (c.drop (i+1))) (c.getD i 0) (zOf m r s i).1 (zOf m r s i).2:=by
 have ez:(zs m r s).drop i=zOf m r s i::(zs m r s).drop (i+1):=by
  rw[List.drop_eq_getElem_cons (by simp[zs];omega)];simp[zs]
 have ec:c.drop i=c.getD i 0::c.drop (i+1):=by
  rw[List.drop_eq_getElem_cons (by omega),List.getD_eq_getElem?_getD,List.getElem?_eq_getElem (by omega)];rfl
 rw[ez,ec];rfl
theorem okCh_at {c:List Nat}(h:okCh c)(i:Nat):c.getD i 0≤9:=by
 rw[List.getD_eq_getElem?_getD]
 cases e:c[i]? with
 | none=>exact (by decide:0≤9)
 | some x=>exact (h x (List.mem_of_getElem? e)).2
section
variable {P:Program}{w:World}{K:PySem.W.Frag}{mg:Str→Option Value}{base:Heap}
def spHours (K:PySem.W.Frag):Sp:=fun vs H Q _=>∃(fa wa ca:Addr) (s r c:List Nat),vs=[.ref fa,.ref wa,.ref ca]∧SqT K H fa (s.map nV)∧SqA K H wa (r.map nV)∧SqA K H ca (c.map nV)∧
 c.length=r.length+1∧s.length=r.length∧c.length≤4∧okCh c∧∀(H':Hp) (b:Addr),Ae H H'→HoursAt H' b (hoursOf c r s)→Q (.ref b) H'
theorem scHours:Aq ["filling","way","chances","last","found","machine","has_piece","has_place"] ["filling","way","chances"] (Ag sHours):=⟨rfl,rfl,rfl,by decide +kernel,rfl,by decide +kernel,by decide +kernel⟩
theorem ok_hours {f fA:Addr}{fd fdA:FuncData}(F:Fun K "hours" "hours" sHours f fd)(FA:Fun K "with_machine_ahead" "with_machine_ahead" sAhead fA fdA)(bA:An K fdA ["found","chance","has_piece","has_place"] [])
  (mgA:mg "with_machine_ahead"=some (.ref fA))(mgL:mg "len"=none)(mgR:mg "range"=none):Ah P w K mg base CX0 2 f fd ["filling","way","chances"] (spHours K):=by
 have GA:Ah P w K mg base CX0 1 fA fdA ["found","chance","has_piece","has_place"] spAhead:=ok_ahead FA
 refine F.ok scHours (fun vs H Q E h=>?_) (fun cdv A outer s H vs Q E hr h=>?_)
 ·
  obtain⟨fa,wa,ca,s,r,c,rfl,_⟩:=h
  rfl
 ·
  obtain⟨fa,wa,ca,st,r,c,rfl,hf,hw,hc,hl,hsl,h4,hok,k⟩:=h
  refine⟨_,Ad (As (i:=3) scHours.nd rfl (Or.inl rfl) (Az At rfl mgL PySem.boot_len (Aa (pv 1) Ac)))
   (Ad (As (i:=4) scHours.nd rfl (Or.inl rfl) (AD (Aa (A6 (Aa Ao (Aa (A6 Ac) Ac))) Ac)))
   (Ad (ps_for PassesOwn.never rfl (pi_range3 rfl mgR (Aa (pv 3) (Aa (pe_un un_neg Ao) (Aa (pe_un un_neg Ao) Ac)))) (Au (i:=5) scHours.nd rfl (Or.inl rfl))
    (Ad (As (i:=6) scHours.nd rfl (Or.inl rfl) (pe_or (pe_cmpR op_eq (pv 5) Ao (AA _)) (pe_one (pe_cmpR op_gt (AK ix_tup (pv 0) (AH op_sub (pv 5) Ao) (fun _ _=>rfl)) Ao (AA _)))))
    (Ad (As (i:=7) scHours.nd rfl (Or.inl rfl) (pe_or (pe_cmpR op_eq (pv 5) (pv 3) (AA _)) (pe_one (pe_cmpR op_lt (AK ix_tup (pv 0) (pv 5) (fun _ _=>rfl)) (AK ix_seq (pv 1) (pv 5) (fun _ _=>rfl)) (AA _)))))
    (Af (As (i:=4) scHours.nd rfl (Or.inl rfl) (Aw GA hr rfl mgA FA.kp bA .nil Ap (Aa (pv 4) (Aa (AK ix_seq (pv 2) (pv 5) (fun _ _=>rfl)) (Aa (pv 6) (Aa (pv 7) Ac))))))))))
   (Af (Al (pv 4))))),?_⟩
  refine⟨_,rfl,wa,_,rfl,hw,?_⟩
  refine⟨by decide,fun t0 ht0=>⟨(by show 2≤sizeLine;decide),fun t1 ht1=>⟨(by show 1≤sizeLine;decide),fun l0 hl0=>?_⟩⟩⟩
  have s0:Ae H (upd H t0 (.tup [])):=Ae.upd ht0
  have s1:Ae H (upd (upd H t0 (.tup [])) t1 (.tup [.int 1,.ref t0])):=Ae.trans s0 (Ae.upd ht1)
  have s2:Ae H (upd (upd (upd H t0 (.tup [])) t1 (.tup [.int 1,.ref t0])) l0 (.lst [.ref t1])):=Ae.trans s1 (Ae.upd hl0)
  have h1:(upd (upd (upd H t0 (.tup [])) t1 (.tup [.int 1,.ref t0])) l0 (.lst [.ref t1])) t0=some (.tup []):=Ae.upd hl0 _ _ (Ae.upd ht1 _ _ Ab)
  have h2:(upd (upd (upd H t0 (.tup [])) t1 (.tup [.int 1,.ref t0])) l0 (.lst [.ref t1])) t1=some (.tup [.int 1,.ref t0]):=Ae.upd hl0 _ _ Ab
  have hz0:(zs c.length r st).drop c.length=[]:=List.drop_eq_nil_of_le (by simp[zs])
  have B0:HoursAt (upd (upd (upd H t0 (.tup [])) t1 (.tup [.int 1,.ref t0])) l0 (.lst [.ref t1])) l0 (hoursZ ((zs c.length r st).drop (c.length-0)) (c.drop (c.length-0))):=by
   rw[Nat.sub_zero,hz0]
   exact⟨[t1],Ab,.cons ⟨t0,h2,h1⟩ .nil⟩
  have hrl:(r.map nV).length=r.length:=List.length_map ..
  rw[hrl]
  have hrg:((r.length:Int)-(-1)).toNat=c.length:=by omega
  refine⟨_,rfl,_,rfl,_,rfl,(r.length:Int),-1,-1,_,rfl,RgC.neg (by omega) (by omega) (by omega) (by omega),?_⟩
  rw[hrg]
  refine for_rangeC (n:=c.length) (fun i σ H'=>∃(l:Addr) (v5 v6 v7:Option V),σ=[some (.ref fa),some (.ref wa),some (.ref ca),some (.int (r.length:Int)),some (.ref l),v5,v6,v7]∧Ae H H'∧
    HoursAt H' l (hoursZ ((zs c.length r st).drop (c.length-i)) (c.drop (c.length-i))))
   ⟨l0,none,none,none,rfl,s2,B0⟩ ?_ ?_
  ·
   rintro i σ H' hi ⟨l,v5,v6,v7,rfl,sm,B⟩
   obtain⟨j,hj⟩:∃j:Nat,j=c.length-1-i:=⟨_,rfl⟩
   have ej:(r.length:Int)+(i:Int)*-1=((j:Nat):Int):=by omega
   have hjc:j<c.length:=by omega
   have e1:c.length-i=j+1:=by omega
   have e2:c.length-(i+1)=j:=by omega
   rw[e1] at B
   rw[ej]
   have hf':=sqT_same sm hf
   have hw':=hw.same sm
   have hc':=hc.same sm
   have hB:∀x∈hoursZ ((zs c.length r st).drop (j+1)) (c.drop (j+1)),x.2.length=c.length-(j+1):=fun x hx=>by
    rw[hoursZ_wid _ _ x hx];simp[zs]
   have hBl:(hoursZ ((zs c.length r st).drop (j+1)) (c.drop (j+1))).length≤100:=by
    have h1:=hoursZ_len ((zs c.length r st).drop (j+1)) (c.drop (j+1))
    have h2:((zs c.length r st).drop (j+1)).length≤4:=by simp[zs];omega
    have h3:2^((zs c.length r st).drop (j+1)).length≤2^4:=Nat.pow_le_pow_right (by decide) h2
    omega
   have z2:j+1=c.length→(zOf c.length r st j).2=true:=fun z=>by
    have:(j+1==c.length)=true:=by rw[z];exact beq_self_eq_true _
    show (j+1==c.length||_)=true
    rw[this];rfl
   have hcat:atI (c.map nV) ((j:Nat):Int)=some (nV (c.getD j 0)):=at_nV hjc
   have fin:∀(b1 b2:Bool),b1=(zOf c.length r st j).1→b2=(zOf c.length r st j).2→∀(Q1:VK),
     (∀H2 l2,Ae H H2→HoursAt H2 l2 (hoursZ ((zs c.length r st).drop j) (c.drop j))→Q1 (.ref l2) H2)→spAhead [.ref l,nV (c.getD j 0),.bl b1,.bl b2] H' Q1 E0:=by
    intro b1 b2 h1 h2 Q1 hQ
    subst h1 h2
    refine⟨l,_,_,_,_,rfl,B,okCh_at hok j,hBl,?_,fun x hx=>by rw[hB x hx];omega,fun H2 b2 sm2 B2=>hQ _ _ (Ae.trans sm sm2) ?_⟩
    ·
     by_cases z:j+1=c.length
     ·
      exact .inl (z2 z)
     ·
      refine .inr fun x hx e=>?_
      have:=hB x hx
      rw[e] at this
      simp at this
      omega
    ·
     rw[hoursZ_step rfl hjc];exact B2
   refine⟨_,rfl,rfl,_,rfl,?_⟩
   have lastT:j+1=c.length→decide (V.int ((j:Nat):Int)=V.int (r.length:Int))=true:=fun jl=>by
    have:((j:Nat):Int)=(r.length:Int):=by omega
    rw[this];exact decide_eq_true rfl
   have lastF:¬j+1=c.length→decide (V.int ((j:Nat):Int)=V.int (r.length:Int))=false:=fun jl=>by
    apply decide_eq_false
    intro z
    have:((j:Nat):Int)=(r.length:Int):=V.int.inj z
    omega
   have z3:¬j+1=c.length→decide (((st.getD j 0:Nat):Int)<((r.getD j 0:Nat):Int))=(zOf c.length r st j).2:=fun jl=>by
    have:(j+1==c.length)=false:=beq_eq_false_iff_ne.mpr jl
    show _=(j+1==c.length||decide (st.getD j 0<r.getD j 0))
    rw[this,Bool.false_or]
    exact decide_eq_decide.mpr Int.ofNat_lt
   by_cases j0:j=0
   ·
    have ez:decide (V.int ((j:Nat):Int)=V.int 0)=true:=by rw[j0];rfl
    have hz1:true=(zOf c.length r st j).1:=by rw[j0];rfl
    rw[ez]
    refine AY ?_
    refine⟨_,rfl,_,rfl,rfl,_,rfl,?_⟩
    by_cases jl:j+1=c.length
    ·
     rw[lastT jl]
     refine AY ?_
     refine⟨_,rfl,_,rfl,_,rfl,hc'.ix hcat ⟨_,rfl,_,rfl,?_⟩⟩
     dsimp only[tNil]
     refine fin _ _ hz1 (z2 jl).symm _ (fun H2 l2 sm2 B2=>?_)
     exact⟨l2,_,_,_,rfl,sm2,by rw[e2];exact B2⟩
    ·
     rw[lastF jl]
     refine A3 ?_
     refine⟨_,rfl,_,rfl,fa,_,_,_,rfl,rfl,hf',at_nV (by omega),_,rfl,_,rfl,hw'.ix (at_nV (by omega)) ⟨_,_,rfl,rfl,?_⟩⟩
     refine⟨_,rfl,_,rfl,_,rfl,hc'.ix hcat ⟨_,rfl,_,rfl,?_⟩⟩
     dsimp only[tNil]
     refine fin _ _ hz1 (z3 jl) _ (fun H2 l2 sm2 B2=>?_)
     exact⟨l2,_,_,_,rfl,sm2,by rw[e2];exact B2⟩
   ·
    have ez:decide (V.int ((j:Nat):Int)=V.int 0)=false:=by
     apply decide_eq_false
     intro z
     have:((j:Nat):Int)=0:=V.int.inj z
     omega
    have ej1:((j:Nat):Int)-1=((j-1:Nat):Int):=by omega
    have hat:atI (st.map nV) (((j:Nat):Int)-1)=some (nV (st.getD (j-1) 0)):=by rw[ej1];exact at_nV (by omega)
    have hz1:decide ((0:Int)<((st.getD (j-1) 0:Nat):Int))=(zOf c.length r st j).1:=by
     have:(j==0)=false:=beq_eq_false_iff_ne.mpr j0
     show _=(j==0||decide (0<st.getD (j-1) 0))
     rw[this,Bool.false_or]
     exact decide_eq_decide.mpr (Int.ofNat_lt (n:=0))
    rw[ez]
    refine A3 ?_
    refine⟨_,rfl,_,rfl,_,_,rfl,rfl,fa,_,_,_,rfl,rfl,hf',hat,_,_,rfl,rfl,?_⟩
    refine⟨_,rfl,_,rfl,rfl,_,rfl,?_⟩
    by_cases jl:j+1=c.length
    ·
     rw[lastT jl]
     refine AY ?_
     refine⟨_,rfl,_,rfl,_,rfl,hc'.ix hcat ⟨_,rfl,_,rfl,?_⟩⟩
     dsimp only[tNil]
     refine fin _ _ hz1 (z2 jl).symm _ (fun H2 l2 sm2 B2=>?_)
     exact⟨l2,_,_,_,rfl,sm2,by rw[e2];exact B2⟩
    ·
     rw[lastF jl]
     refine A3 ?_
     refine⟨_,rfl,_,rfl,fa,_,_,_,rfl,rfl,hf',at_nV (by omega),_,rfl,_,rfl,hw'.ix (at_nV (by omega)) ⟨_,_,rfl,rfl,?_⟩⟩
     refine⟨_,rfl,_,rfl,_,rfl,hc'.ix hcat ⟨_,rfl,_,rfl,?_⟩⟩
     dsimp only[tNil]
     refine fin _ _ hz1 (z3 jl) _ (fun H2 l2 sm2 B2=>?_)
     exact⟨l2,_,_,_,rfl,sm2,by rw[e2];exact B2⟩
  ·
   rintro σ H' ⟨l,v5,v6,v7,rfl,sm,B⟩
   rw[Nat.sub_self] at B
   exact⟨_,rfl,k _ _ sm B⟩
end
end Wk
namespace Rv
open PySem PySem.Spec PyProof.Rows
section
variable {prog:Program}{w:World}{A:Around}{E:Value→Shared→Prop}{s:Shared}
theorem tup_next {it tp:Addr}{i:Nat}{vs:Array Value}{x:Value}{Q:Value→Shared→Prop}(g:s.heap.IsTupleIter it tp i)(ht:s.heap.IsTuple tp vs)(hx:vs[i]?=some x)
  (k:∀h',h'.IsTupleIter it tp (i+1)→Heap.SameBut it s.heap h'→Q x {s with heap:=h'}):wpAny (model prog w) A (Builtin.SmallTypes.nextOf (.ref it)) Q E s:=by
 obtain⟨oi,hi,ci,di⟩:=id g
 obtain⟨ot,hot,_,nt,dt⟩:=ht
 unfold Builtin.SmallTypes.nextOf
 refine wpAny_bind (wpAny_callSpecial?_slot (name:=Str.ofString "__next__") g.typeIs F.slot_tuple_iterator_next (wpAny_call_entry F.slot_tuple_iterator_next g.typeIs F.entry_tuple_iterator_next ?body (F.args_tuple_iterator_next_1 _)))
 case body=>
  refine wpAny_bind (m:=field (.ref it) 0) (wpAny_field hi di (x:=.ref tp) rfl ?_)
  rw[if_neg (show ¬((Value.ref tp==Value.none)=true) from fun z=>nomatch z)]
  refine wpAny_bind (m:=field (.ref it) 1) (wpAny_field hi di (x:=.int i 0) rfl (wpAny_bind (m:=seqItems? (.ref tp)) (wpAny_seqItems hot dt ?_)))
  simp only[Int.toNat_natCast,hx]
  refine wpAny_bind (wpAny_setField hi di (by simp) (wpAny_pure ⟨x,rfl,wpAny_pure (k _ ⟨_,Heap.get?_update_self _ hi (Obj.isFreed_of_fields (Obj.data_mapFields di _)),(Obj.cls_mapFields ..).trans ci,?_⟩ (Heap.SameBut.update ..))⟩))
  rw[Obj.data_mapFields di];simp[rawInt]
theorem tup_over {it tp:Addr}{i:Nat}{vs:Array Value}{Q:Value→Shared→Prop}(hh:A.handled=none)(g:s.heap.IsTupleIter it tp i)(ht:s.heap.IsTuple tp vs)(hx:vs[i]?=none)
  (k:∀h' e,Heap.ExtBut it s.heap h'→(∃o,h'.get? e=some o∧o.cls=.type "StopIteration")→E (.ref e) {s with heap:=h'}):wpAny (model prog w) A (Builtin.SmallTypes.nextOf (.ref it)) Q E s:=by
 obtain⟨oi,hi,ci,di⟩:=id g
 obtain⟨ot,hot,_,nt,dt⟩:=ht
 unfold Builtin.SmallTypes.nextOf
 refine wpAny_bind (wpAny_callSpecial?_slot (name:=Str.ofString "__next__") g.typeIs F.slot_tuple_iterator_next (wpAny_call_entry F.slot_tuple_iterator_next g.typeIs F.entry_tuple_iterator_next ?body (F.args_tuple_iterator_next_1 _)))
 case body=>
  refine wpAny_bind (m:=field (.ref it) 0) (wpAny_field hi di (x:=.ref tp) rfl ?_)
  rw[if_neg (show ¬((Value.ref tp==Value.none)=true) from fun z=>nomatch z)]
  refine wpAny_bind (m:=field (.ref it) 1) (wpAny_field hi di (x:=.int i 0) rfl (wpAny_bind (m:=seqItems? (.ref tp)) (wpAny_seqItems hot dt ?_)))
  simp only[Int.toNat_natCast,hx]
  refine wpAny_bind (wpAny_rule (wpAny_bind (wpAny_setField hi di (by simp) (wpAny_bind (m:=newExc (.type "StopIteration") []) ?_))))
  simp only[newExc,newTuple]
  refine wpAny_bind (wpAny_newObj_type (wpAny_bind (m:=firstArgMember _ _) (wpAny_of_eq (a:=Value.none) (by first | rfl | (simp only[firstArgMember];rfl)) (wpAny_newObj_type ?_ (by size_fits)))) (by size_fits))
  simp only[raiseNew]
  refine wpAny_bind (wpAny_handled ?_)
  first | rw[show A.in1.handled=none from hh] | rw[hh]
  exact wpAny_bind (wpAny_pure (wpAny_throw (k _ _ (((Heap.SameBut.update ..).extBut.push _).push _) ⟨_,Heap.get?_push_size _ rfl,rfl⟩)))
end
theorem draws_tup {prog:Program}{w:World}{A:Around}(hh:A.handled=none)(it tp:Addr)(ne:tp≠it)(vs:Array Value):
  Draws prog w A it [it,tp] vs.size (fun i v=>vs[i]?=some v) (fun i h=>h.IsTupleIter it tp i∧h.IsTuple tp vs) where
 live:=fun _ _ st=>let ⟨o,ho,_⟩:=st.1;⟨o,ho⟩
 frame:=fun _ _ _ st k=>⟨st.1.at fun o e=>k it (by simp) o e,let ⟨o,ho,r⟩:=st.2;⟨o,k tp (by simp) o ho,r⟩⟩
 item:=fun i s Q E hi st q=>tup_next st.1 st.2 (x:=vs[i]) (by simp[hi]) fun h' g sb=>q _ h' s.toks (by simp[hi]) ⟨g,st.2.extBut sb.extBut ne⟩ sb
 done:=fun s Q E st q=>tup_over hh st.1 st.2 (by simp) q
open AutoSeq1 (wpAny_loadPart') in
theorem new_enum_tup (tp:Addr)(vs:Array Value)(n:Nat)(dct:Option Addr)(sl:Array (Option Value)):
  Meets (Builtin.«enumerate.__new__» ⟨[.type "enumerate",.ref tp],[]⟩) (fun _ R s=>s.heap.get? tp=some {cls:=.type "tuple",dict:=dct,data:=.seq vs n,slots:=sl}∧
   R (.ok (.ret (.ref (s.heap.push {cls:=.type "tuple_iterator",data:=.fields #[.ref tp,.int 0 0]}).objs.size)))
    {s with heap:=(s.heap.push {cls:=.type "tuple_iterator",data:=.fields #[.ref tp,.int 0 0]}).push {cls:=.type "enumerate",data:=.fields #[.none,.bool false,.ref s.heap.objs.size,rawInt 0,.none,.none]}}):=
 .of_wp fun prog w A R s h=>by
  obtain⟨hp,g,d,tk,os⟩:=s
  obtain⟨hl,h⟩:=h
  have hsub:=sub_enumerate
  have hT:Heap.IsTuple (Shared.heap ⟨hp,g,d,tk,os⟩) tp vs:=⟨_,hl,rfl,n,rfl⟩
  wp_walk using wpAny_loadPart' hl
  refine wpAny_stack_any fun st=>wpAny_pure ?_
  split
  ·
   rename_i c _ _ _ _ _
   cases (c==Value.type "enumerate")<;>(wp_walk using wpAny_loadPart' hl,wpAny_pyIter_tuple hT;exact⟨_,rfl,h⟩)
  ·
   wp_walk using wpAny_loadPart' hl,wpAny_pyIter_tuple hT
   exact⟨_,rfl,h⟩
theorem call_enum_tup {prog:Program}{w:World}{A:Around}{E:Value→Shared→Prop}{s:Shared}{tp:Addr}{vs:Array Value}{Q:Value→Shared→Prop}(hT:s.heap.IsTuple tp vs)
  (h:∀h',IsEnum h' (s.heap.objs.size+1) s.heap.objs.size 0 .none→h'.IsTupleIter s.heap.objs.size tp 0→h'.objs.size=s.heap.objs.size+2→
   (∀b o,s.heap.get? b=some o→h'.get? b=some o)→Q (.ref (s.heap.objs.size+1)) {s with heap:=h'}):wpAny (model prog w) A (call (.type "enumerate") [.ref tp]) Q E s:=by
 obtain⟨⟨c,dct,dt,sl⟩,hl,hc,n,hd⟩:=hT
 replace hc:c=.type "tuple":=hc
 replace hd:dt=.seq vs n:=hd
 subst hc hd
 refine callType_new F.called_enumerate (by decide) (F.typeCall_enumerate_1 _) (F.newCall_enumerate_1 _) (fun obj=>F.args_object_init_2 obj _) F.entry_enumerate_new (new_enum_tup tp vs n dct sl) ⟨hl,?_⟩
 have hz:(s.heap.push {cls:=.type "tuple_iterator",data:=.fields #[.ref tp,.int 0 0]}).objs.size=s.heap.objs.size+1:=Heap.size_push ..
 have he:=Heap.get?_push_size (s.heap.push {cls:=.type "tuple_iterator",data:=.fields #[.ref tp,.int 0 0]}) (o:={cls:=.type "enumerate",data:=.fields #[.none,.bool false,.ref s.heap.objs.size,rawInt 0,.none,.none]}) rfl
 rw[hz] at he
 show _∧_
 rw[hz]
 exact⟨⟨_,he,rfl⟩,h _ he ⟨_,Heap.get?_push_of_some _ (Heap.get?_push_size _ rfl),rfl,rfl⟩ (by rw[Heap.size_push,hz]) fun b o x=>Heap.get?_push_of_some _ (Heap.get?_push_of_some _ x)⟩
end Rv
namespace L2
open PySem PySem.Spec PyProof.Rows
def IteT (K:PySem.W.Frag)(a:Addr):It:=
 ⟨fun i H=>∃(xs:List V) (x:V),SqT K H a xs∧xs[i]?=some x,fun i H v H'=>∃T x,v=.ref T∧H T=none∧H'=upd H T (.tup [.int (i:Nat),x])∧∀xs,SqT K H a xs→xs[i]?=some x,fun i H=>∃xs:List V,SqT K H a xs∧xs.length=i⟩
theorem tup_apart {h:Heap}{a it:Addr}{vs:Array Value}{i:Nat}(x:h.IsTuple a vs)(g:h.IsTupleIter it a i):a≠it:=by
 rintro rfl
 obtain⟨o,e,c,_⟩:=x
 obtain⟨o',e',c',_⟩:=g
 rw[e] at e';cases e'
 rw[c] at c'
 exact absurd (Value.type.inj c') (by decide)
theorem isTuple_of {h:Heap}{a:Addr}{vs:Array Value}(x:IsTup h a vs):h.IsTuple a vs:=x
theorem turn_enumT {P:Program}{w:World}{K:PySem.W.Frag}{elts:List Expr}{kk:Nat}{tpos:Pos}(a e it:Addr):
  Turn P w K (.Tuple elts kk tpos) (IteT K a) [e,it] e (fun i h=>(∃old,IsEnum h e it ((i:Nat):Int) old)∧h.IsTupleIter it a i∧e≠it∧e≠a) where
 mem:=by simp
 obj:=fun i h st b hb=>by
  obtain⟨⟨old,he⟩,⟨o,ho,hc,hd⟩,_⟩:=st
  rcases (show b=e∨b=it by simpa using hb) with z | z
  ·
   rw[z];exact⟨_,he,fun v q=>nomatch q⟩
  ·
   rw[z];exact⟨o,ho,fun v q=>by rw[hd] at q;cases q⟩
 keep:=fun i h h' st k=>let ⟨⟨old,he⟩,hi,ne,na⟩:=st;⟨⟨old,k e (by simp) _ he⟩,hi.at fun o q=>k it (by simp) o q,ne,na⟩
 item:=by
  intro X hP hw hK hc i pins s σ H E I hf st hg
  subst hP hw hK
  obtain⟨⟨old,he⟩,hit,hne,hna⟩:=st
  obtain⟨xs,x,hq,hx⟩:=hg
  obtain⟨its,rv,p,hz⟩:=I.tuple hq
  obtain⟨u,hu,ru⟩:=rv.get hx
  have hT:=isTuple_of p
  have hai:=tup_apart hT hit
  have hel:e<s.heap.objs.size:=Heap.lt_size he
  have hil:it<s.heap.objs.size:=by obtain⟨_,q,_⟩:=hit;exact Heap.lt_size q
  have hlt:i<its.toArray.size:=by simpa using (List.getElem?_eq_some_iff.mp hu).1
  refine wpAny_pyNext_enum_itemD (Rv.draws_tup (A:=X.A.in1) (show X.A.in1.handled=none from I.ok.hd hc) it a hai its.toArray) he ⟨hit,hT⟩ hlt hne (by simp[hne,hna]) fun y h' tk hy ho hst hT2 hsz hk=>?_
  have ey:y=u:=by
   have h1:its.toArray[i]?=some y:=hy
   have h2:its.toArray[i]?=some u:=by simpa using hu
   rw[h1] at h2;exact Option.some.inj h2
  subst ey
  refine⟨_,rfl,wpAny_letOwnedTupleGo_enum (s:={s with heap:=h',toks:=tk+1}) ho fun h'' he' sb=>?_⟩
  have hT3:h''.get? s.heap.objs.size=some {cls:=.type "tuple",data:=.seq #[.int i tk,y]}:=(sb.2 _ (Nat.ne_of_gt hel)).trans hT2
  have new:ObjOk X.prog X.w (upd H s.heap.objs.size (.tup [.int (i:Nat),x])) h'' s.heap.objs.size (.tup [.int (i:Nat),x]):=
   ⟨by show 2≤sizeLine;decide,[.int i tk,y],.cons ⟨_,rfl⟩ (.cons ru .nil),⟨_,hT3,rfl,_,rfl⟩,fun o e=>by rw[hT3] at e;cases e;rfl⟩
  have I1:Inv X pins σ (upd H s.heap.objs.size (.tup [.int (i:Nat),x])) {s with heap:=h'',toks:=tk+1}:=
   I.turnedNew (ch:=[e,it]) (fun b ob hb q=>(sb.2 b (fun z=>hb (by simp[z]))).trans (hk b ob (fun z=>hb (by simp[z])) (fun z=>hb (by simp[z])) q)) hf (Nat.le_refl _) new
  refine⟨.ref s.heap.objs.size,_,I1,rfl,⟨_,x,rfl,I.hok.fresh (Nat.le_refl _),rfl,fun ys hy2=>by rw[I.tuple_inj hy2 hq];exact hx⟩,⟨⟨y,?_⟩,hst.1.at fun o q=>(sb.2 it (Ne.symm hne)).trans q,hne,hna⟩,fun b hb=>?_⟩
  ·
   have e1:((i+1:Nat):Int)=(i:Int)+1:=by omega
   rw[e1];exact he'
  ·
   have hb':b<s.heap.objs.size:=by
    rcases (show b=e∨b=it by simpa using hb) with z | z
    ·
     rw[z];exact hel
    ·
     rw[z];exact hil
   rw[Ai (Nat.ne_of_lt hb')]
   exact (hf b hb).1
 done:=by
  intro X hP hw hK hc i pins s σ H E I hf st hg
  subst hP hw hK
  obtain⟨⟨old,he⟩,hit,hne,hna⟩:=st
  obtain⟨xs,hq,hx⟩:=hg
  obtain⟨its,rv,p,hz⟩:=I.tuple hq
  have hT:=isTuple_of p
  obtain⟨f0,f1,f2,f3,f4,f5⟩:=hf it (by simp)
  have hl:=rv.length
  have en:i=its.toArray.size:=by simp;omega
  subst en
  exact wpAny_pyNext_enum_endD (Rv.draws_tup (A:=X.A.in1) (show X.A.in1.handled=none from I.ok.hd hc) it a (tup_apart hT hit) its.toArray) he ⟨hit,hT⟩ fun h' eb=>⟨rfl,I.turned (t':=s.toks) (fun b o hb q=>eb b o hb q) f0 f1 f3 f4 f5⟩
 self:=fun A i s Q E st h=>let ⟨⟨_,he⟩,_⟩:=st;wpAny_pyIter_enum he h
def iEnumT (K:PySem.W.Frag)(ta:TA):TI:=fun σ H R=>ta σ H fun vs H1=>∃a xs,vs=[.ref a]∧SqT K H1 a xs∧R (IteT K a) H1
theorem pi_enumT {X:Cx}{e:Expr}{ta:TA}{p pos tpos:Pos}{elts:List Expr}{kk:Nat}(hg:Gl X "enumerate")(hm:X.mg "enumerate"=none)(ha:PA X [e] ta)(hs:starEach [e] X.env=[(false,eval e X.env)]:=by rfl):
  PI X (.Tuple elts kk tpos) (.Call (.Name "enumerate" p) [e] [] pos) (iEnumT X.K ta):=by
 intro pins s σ H R I h
 refine Call_ (ld_blt I hg hm boot_enumerate (PyProof.Rows.callWith_type1 (thn (ha pos pins s σ H _ I h) fun us s1 ⟨vs,H1,I1,r1,q1⟩=>?_) hs rfl))
 obtain⟨a,xs,ex,hq,q⟩:=q1
 subst ex
 cases r1 with
 |
  cons r rr=>
  cases rr
  cases r
  obtain⟨its,rv,p',hz⟩:=I1.tuple hq
  have hlt:a<s1.heap.objs.size:=by obtain⟨o,q,_⟩:=p';exact Heap.lt_size q
  refine Rv.call_enum_tup (isTuple_of p') fun h' he hit hsz hk=>wpAny_pyIter_enum he ?_
  have I2:Inv X pins σ H1 {s1 with heap:=h'}:=I1.kept (t':=s1.toks) hk
  refine⟨s1.heap.objs.size+1,[s1.heap.objs.size+1,s1.heap.objs.size],_,_,H1,rfl,I2,turn_enumT a (s1.heap.objs.size+1) s1.heap.objs.size,⟨⟨.none,he⟩,hit,Nat.succ_ne_self _,Nat.ne_of_gt (Nat.lt_succ_of_lt hlt)⟩,fun b hb=>?_,q⟩
  have hle:s1.heap.objs.size≤b:=by
   rcases (show b=s1.heap.objs.size+1∨b=s1.heap.objs.size by simpa using hb) with z | z
   ·
    rw[z];exact Nat.le_succ _
   ·
    rw[z];exact Nat.le_refl _
  exact I1.fpOk hle (I1.hok.fresh hle)
theorem lc_enumT {K:PySem.W.Frag}{a:Addr}{xs:List V}{g:TG}{tt:TT}{te:TE}{vs:List Nat}{σ:St}{H1:Hp}{D:Addr}{Qd:Hp→Prop}(Pv:Nat→Hp→Prop)(h0:Pv 0 (upd H1 D (.lst [])))(hl:∀i H,i≤xs.length→Pv i H→SqT K H a xs)
  (hs:∀i x H,xs[i]?=some x→Pv i H→∀T,H T=none→g (.ref T) (wipe σ vs) (upd H T (.tup [.int (i:Nat),x])) fun σ2 H2=>wipe σ2 vs=wipe σ vs∧tt σ2 H2 fun b H3=>
   if b=true then te σ2 H3 fun y H4=>∃acc,H4 D=some (.lst acc)∧acc.length<sizeLine∧Pv (i+1) (upd H4 D (.lst (acc++[y]))) else Pv (i+1) H3)(hd:∀H,Pv xs.length H→Qd H):
  ∃W:Nat→Nat→Hp→Prop,(∃m,W 0 m (upd H1 D (.lst [])))∧∀i m H,W i m H→
   ((
    IteT K a).stop i H∧Qd H)∨((IteT K a).go i H∧∃Nx:Hp→Prop,(∀H',Nx H'→∃m',m'<m∧W (i+1) m' H')∧∀x H',(IteT K a).yld i H x H'→g x (wipe σ vs) H' fun σ2 H2=>wipe σ2 vs=wipe σ vs∧tt σ2 H2 fun b H3=>
    if b=true then te σ2 H3 fun y H4=>∃acc,H4 D=some (.lst acc)∧acc.length<sizeLine∧Nx (upd H4 D (.lst (acc++[y]))) else Nx H3):=by
 refine⟨fun i m H=>m=xs.length-i∧i≤xs.length∧Pv i H,⟨xs.length,by simp,Nat.zero_le _,h0⟩,?_⟩
 rintro i m H ⟨rfl,hi,p⟩
 have q:=hl i H hi p
 by_cases hlt:i<xs.length
 ·
  refine .inr ⟨⟨xs,xs[i],q,by simp[hlt]⟩,Pv (i+1),fun H' p'=>⟨xs.length-(i+1),by omega,rfl,hlt,p'⟩,fun x H' y=>?_⟩
  obtain⟨T,z,rfl,hT,rfl,y⟩:=y
  exact hs i z _ (y xs q) p T hT
 ·
  have e:i=xs.length:=by omega
  subst e
  exact .inl ⟨⟨xs,q,rfl⟩,hd H p⟩
theorem lc_enum {K:PySem.W.Frag}{a:Addr}{xs:List V}{g:TG}{tt:TT}{te:TE}{vs:List Nat}{σ:St}{H1:Hp}{D:Addr}{Qd:Hp→Prop}(Pv:Nat→Hp→Prop)(h0:Pv 0 (upd H1 D (.lst [])))(hl:∀i H,i≤xs.length→Pv i H→SqL K H a xs)
  (hs:∀i x H,xs[i]?=some x→Pv i H→∀T,H T=none→g (.ref T) (wipe σ vs) (upd H T (.tup [.int (i:Nat),x])) fun σ2 H2=>wipe σ2 vs=wipe σ vs∧tt σ2 H2 fun b H3=>
   if b=true then te σ2 H3 fun y H4=>∃acc,H4 D=some (.lst acc)∧acc.length<sizeLine∧Pv (i+1) (upd H4 D (.lst (acc++[y]))) else Pv (i+1) H3)(hd:∀H,Pv xs.length H→Qd H):
  ∃W:Nat→Nat→Hp→Prop,(∃m,W 0 m (upd H1 D (.lst [])))∧∀i m H,W i m H→
   ((
    Ite K a).stop i H∧Qd H)∨((Ite K a).go i H∧∃Nx:Hp→Prop,(∀H',Nx H'→∃m',m'<m∧W (i+1) m' H')∧∀x H',(Ite K a).yld i H x H'→g x (wipe σ vs) H' fun σ2 H2=>wipe σ2 vs=wipe σ vs∧tt σ2 H2 fun b H3=>
    if b=true then te σ2 H3 fun y H4=>∃acc,H4 D=some (.lst acc)∧acc.length<sizeLine∧Nx (upd H4 D (.lst (acc++[y]))) else Nx H3):=by
 refine⟨fun i m H=>m=xs.length-i∧i≤xs.length∧Pv i H,⟨xs.length,by simp,Nat.zero_le _,h0⟩,?_⟩
 rintro i m H ⟨rfl,hi,p⟩
 have q:=hl i H hi p
 by_cases hlt:i<xs.length
 ·
  refine .inr ⟨⟨xs,xs[i],q,by simp[hlt]⟩,Pv (i+1),fun H' p'=>⟨xs.length-(i+1),by omega,rfl,hlt,p'⟩,fun x H' y=>?_⟩
  obtain⟨T,z,rfl,hT,rfl,y⟩:=y
  exact hs i z _ (y xs q) p T hT
 ·
  have e:i=xs.length:=by omega
  subst e
  exact .inl ⟨⟨xs,q,Nat.le_refl _⟩,hd H p⟩
theorem for_enum {K:PySem.W.Frag}{a:Addr}{xs:List V}{g:TG}{tb:TS}{D:Ends}{σ:St}{H:Hp}(Pv:Nat→St→Hp→Prop)(h0:Pv 0 σ H)(hl:∀i σ H,i≤xs.length→Pv i σ H→SqL K H a xs)
  (hs:∀i x σ H,xs[i]?=some x→Pv i σ H→∀T,H T=none→g (.ref T) σ (upd H T (.tup [.int (i:Nat),x])) fun σ2 H2=>tb {D with nx:=Pv (i+1),ct:=Pv (i+1),bk:=D.nx} σ2 H2)(hd:∀σ H,Pv xs.length σ H→D.nx σ H):
  ∃W:Nat→Nat→St→Hp→Prop,(∃m,W 0 m σ H)∧∀i m σ H,W i m σ H→
   ((Ite K a).stop i H∧D.nx σ H)∨((Ite K a).go i H∧∃N:St→Hp→Prop,(∀σ' H',N σ' H'→∃m',m'<m∧W (i+1) m' σ' H')∧∀x H',(Ite K a).yld i H x H'→g x σ H' fun σ2 H2=>tb {D with nx:=N,ct:=N,bk:=D.nx} σ2 H2):=by
 refine⟨fun i m σ H=>m=xs.length-i∧i≤xs.length∧Pv i σ H,⟨xs.length,by simp,Nat.zero_le _,h0⟩,?_⟩
 rintro i m σ H ⟨rfl,hi,p⟩
 have q:=hl i σ H hi p
 by_cases hlt:i<xs.length
 ·
  refine .inr ⟨⟨xs,xs[i],q,by simp[hlt]⟩,Pv (i+1),fun σ' H' p'=>⟨xs.length-(i+1),by omega,rfl,hlt,p'⟩,fun x H' y=>?_⟩
  obtain⟨T,z,rfl,hT,rfl,y⟩:=y
  exact hs i z σ _ (y xs q) p T hT
 ·
  have e:i=xs.length:=by omega
  subst e
  exact .inl ⟨⟨xs,q,Nat.le_refl _⟩,hd σ H p⟩
end L2
namespace Wk
open PySem PySem.Spec PyProof.Rows L2 Rb
section
variable {P:Program}{w:World}{K:PySem.W.Frag}{mg:Str→Option Value}{base:Heap}
def afterV (s:List Nat)(w:List Bool):List V:=(List.range s.length).map fun i=>V.int ((s.getD i 0:Int)+bi (w.getD i false)-bi (w.getD (i+1) false))
def spFilled (K:PySem.W.Frag):Sp:=fun vs H Q _=>∃(fa wa:Addr) (s:List Nat) (w:List Bool),vs=[.ref fa,.ref wa]∧SqT K H fa (s.map nV)∧SqT K H wa (w.map bV)∧s.length+1=w.length∧w.length≤10∧
 ∀(H':Hp) (t:Addr),Ae H H'→H' t=some (.tup (afterV s w))→Q (.ref t) H'
theorem scFilled:Aq ["filling","working","room","held"] ["filling","working"] (Ag sFilled):=⟨rfl,rfl,rfl,by decide +kernel,rfl,by decide +kernel,by decide +kernel⟩
theorem at_bV {l:List Bool}{i:Nat}(h:i<l.length):atI (l.map bV) ((i:Nat):Int)=some (bV (l.getD i false)):=by
 apply atI_nat
 rw[List.getElem?_map,List.getElem?_eq_getElem h,List.getD_eq_getElem?_getD,List.getElem?_eq_getElem h];rfl
theorem map_nV_at {l:List Nat}{i:Nat}{y:V}(h:(l.map nV)[i]?=some y):i<l.length∧y=nV (l.getD i 0):=by
 rw[List.getElem?_map] at h
 cases e:l[i]? with
 | none=>rw[e] at h;cases h
 |
  some t=>
  rw[e] at h
  refine⟨(List.getElem?_eq_some_iff.mp e).1,?_⟩
  rw[List.getD_eq_getElem?_getD,e];exact (Option.some.inj h).symm
theorem ok_filled {f:Addr}{fd:FuncData}(F:Fun K "filled_after" "filled_after" sFilled f fd)(mgT:mg "tuple"=none)(mgE:mg "enumerate"=none):Ah P w K mg base CX0 1 f fd ["filling","working"] (spFilled K):=by
 refine F.ok scFilled (fun vs H Q E h=>?_) (fun cdv A outer s H vs Q E hr h=>?_)
 ·
  obtain⟨fa,wa,s,w,rfl,_⟩:=h
  rfl
 ·
  obtain⟨fa,wa,st,wk,rfl,hf,hw,hl,h10,k⟩:=h
  refine⟨_,Af (Al (A2 call_tuple_of rfl mgT (by decide +kernel) (Aa (pe_lc (own:=[("room",2),("held",3)]) (g:=gTup K 2 (gCons (gName 2) (gCons (gName 3) gNil))) rfl scFilled.nd (pi_enumT rfl mgE (Aa (pv 0) Ac)) (A5 (by show blkC ["filling","working","room","held"] (Ag sFilled) _ _=true;decide +kernel))
   (fun _ _ _ _ _=>pg_tup rfl (AS (Au (i:=2) scFilled.nd rfl (Or.inl rfl) (.inr rfl)) (AS (Au (i:=3) scFilled.nd rfl (Or.inl rfl) (.inr rfl)) pgs_nil)))
   (fun _ _ _ _ _=>pts_nil)
   (fun _ _ _ _ _=>AH op_sub (AH op_add (pv 3) (AK (r:=rIxT K) ix_tup (pv 1) (pv 2) (fun _ _=>rfl))) (AK (r:=rIxT K) ix_tup (pv 1) (AH op_add (pv 2) Ao) (fun _ _=>rfl)))) Ac))),?_⟩
  refine⟨_,rfl,fa,_,rfl,hf,fun D hD=>?_⟩
  refine lc_enumT (K:=K) (a:=fa) (xs:=st.map nV) (fun i H'=>Ae H H'∧H' D=some (.lst ((afterV st wk).take i))) ⟨Ae.upd hD,Ab⟩ (fun i H' _ q=>sqT_same q.1 hf) ?_ ?_
  ·
   rintro i x H' hi ⟨sm,hDi⟩ T hT
   obtain⟨hlt,rfl⟩:=map_nV_at hi
   have sT:Ae H' (upd H' T (.tup [.int (i:Nat),nV (st.getD i 0)])):=Ae.upd hT
   have hw':=sqT_same (Ae.trans sm sT) hw
   refine⟨T,_,rfl,SqT.of Ab,rfl,_,_,rfl,_,_,rfl,rfl,rfl,?_⟩
   dsimp only[tYes]
   rw[if_pos rfl]
   have e1:((i:Nat):Int)+1=((i+1:Nat):Int):=by omega
   refine⟨_,rfl,_,rfl,_,rfl,wa,_,_,_,rfl,rfl,hw',at_bV (by omega),_,_,rfl,rfl,_,rfl,_,rfl,_,_,rfl,rfl,wa,_,_,_,rfl,rfl,hw',(by show atI (wk.map bV) (((i:Nat):Int)+1)=some (bV (wk.getD (i+1) false));rw[e1];exact at_bV (by omega)),_,_,rfl,rfl,?_⟩
   have hlen:(afterV st wk).length=st.length:=by simp[afterV]
   refine⟨_,sT _ _ hDi,?_,?_,?_⟩
   ·
    rw[List.length_take];exact AC (by omega)
   ·
    exact fun b o e=>by rw[Ai (Aj e hD)];exact sT _ _ (sm _ _ e)
   ·
    rw[Ab,AJ (x:=V.int ((st.getD i 0:Int)+bi (wk.getD i false)-bi (wk.getD (i+1) false)))]
    unfold afterV
    rw[List.getElem?_map,List.getElem?_range hlt];rfl
  ·
   rintro H' ⟨sm,hDi⟩
   have hlen:(afterV st wk).length=st.length:=by simp[afterV]
   rw[List.length_map,←hlen,List.take_length] at hDi
   exact⟨D,_,rfl,.inl ⟨SqL.of hDi,fun l hl2=>k _ l (Ae.trans sm (Ae.upd hl2)) Ab⟩⟩
end
end Wk
namespace Rb
open Su111
def grown (l:List (List Nat))(m:Nat):List (List Nat):=l.flatMap fun f=>(List.range (m+1)).map fun h=>f++[h]
theorem states_snoc:∀(l:List Nat) (m:Nat),states (l++[m])=grown (states l) m
 |
  [],m=>by
  simp only[List.nil_append,states,grown,List.flatMap_cons,List.flatMap_nil,List.append_nil,List.map_cons,List.map_nil]
  induction (List.range (m+1)) with
  | nil=>rfl
  | cons x r ih=>simp only[List.flatMap_cons,List.map_cons,List.singleton_append,ih]
 |
  x::l,m=>by
  simp only[List.cons_append,states,grown]
  rw[List.flatMap_assoc]
  congr 1
  funext k
  rw[states_snoc l m]
  simp only[grown,List.map_flatMap,List.flatMap_map,List.map_map]
  congr 1
theorem grown_len (l:List (List Nat))(m:Nat):(grown l m).length=l.length*(m+1):=by
 unfold grown
 induction l with
 | nil=>simp
 | cons x l ih=>rw[List.flatMap_cons,List.length_append,ih,List.length_map,List.length_range,List.length_cons,Nat.add_mul];omega
theorem states_pos:∀(l:List Nat),0<(states l).length
 | []=>by simp[states]
 |
  x::l=>by
  have h:=states_last (x::l)
  cases e:states (x::l) with
  | nil=>rw[e] at h;simp at h
  | cons a b=>simp
theorem states_app_le (l k:List Nat):(states l).length≤(states (l++k)).length:=by
 induction k generalizing l with
 | nil=>simp
 |
  cons m k ih=>
  have h:=ih (l++[m])
  rw[List.append_assoc,List.singleton_append] at h
  have h2:(states l).length≤(states (l++[m])).length:=by
   rw[states_snoc,grown_len];exact Nat.le_mul_of_pos_right _ (by omega)
  omega
theorem states_take_le (l:List Nat)(k:Nat):(states (l.take k)).length≤(states l).length:=by
 have h:=states_app_le (l.take k) (l.drop k)
 rw[List.take_append_drop] at h;exact h
theorem states_mem_len:∀(r s:List Nat),s∈states r→s.length=r.length
 | [],s,h=>by simp[states] at h;simp[h]
 |
  x::r,s,h=>by
  simp only[states,List.mem_flatMap,List.mem_map] at h
  obtain⟨k,_,t,ht,e⟩:=h
  rw[←e,List.length_cons,List.length_cons,states_mem_len r t ht]
end Rb
namespace Wk
open PySem PySem.Spec PyProof.Rows L2 Rb
def TupMono {α:Type}(R:Hp→Addr→α→Prop):Prop:=∀(H H':Hp) (t:Addr) (x:α),(∀b xs,H b=some (.tup xs)→H' b=some (.tup xs))→R H t x→R H' t x
theorem same_tup {H H':Hp}(s:Ae H H'):∀b xs,H b=some (.tup xs)→H' b=some (.tup xs):=fun b xs e=>s b _ e
def LstAt {α:Type}(R:Hp→Addr→α→Prop)(H:Hp)(a:Addr)(l:List α):Prop:=∃ts:List Addr,H a=some (.lst (ts.map V.ref))∧Paired (R H) ts l
theorem LstAt.same {α:Type}{R:Hp→Addr→α→Prop}(m:TupMono R){H H':Hp}(s:Ae H H'){a:Addr}{l:List α}(h:LstAt R H a l):LstAt R H' a l:=by
 obtain⟨ts,h1,h2⟩:=h
 exact⟨ts,s _ _ h1,Paired.mapP h2 fun t x q=>m _ _ _ _ (same_tup s) q⟩
structure GMk {α:Type}(R:Hp→Addr→α→Prop)(H0 H1:Hp)(g:Addr)(l:List α):Prop where
 same:Ae H0 H1
 new:H0 g=none
 at_:LstAt R H1 g l
theorem GMk.start {α:Type}{R:Hp→Addr→α→Prop}{H0 H1:Hp}{g:Addr}(s:Ae H0 H1)(hg:H1 g=none):GMk R H0 (upd H1 g (.lst [])) g []:=
 ⟨Ae.trans s (Ae.upd hg),s.free hg,[],Ab,.nil⟩
theorem GMk.grow {α:Type}{R:Hp→Addr→α→Prop}(m:TupMono R){H0 H1 H2:Hp}{g t:Addr}{l:List α}{x:α}(M:GMk R H0 H1 g l)(s:Ae H1 H2)(ht:R H2 t x)(hl:l.length<10000):
  ∃gs:List V,H2 g=some (.lst gs)∧gs.length<sizeLine∧GMk R H0 (upd H2 g (.lst (gs++[.ref t]))) g (l++[x])∧(∀b o,H1 b=some o→b≠g→(upd H2 g (.lst (gs++[.ref t]))) b=some o):=by
 obtain⟨ts,h1,h2⟩:=M.at_
 have e2:=s _ _ h1
 have tk:∀b xs,H2 b=some (.tup xs)→(upd H2 g (.lst (ts.map V.ref++[.ref t]))) b=some (.tup xs):=fun b xs e=>by
  rw[Ai (fun z=>by rw[z,e2] at e;cases e)];exact e
 have kp:∀b o,H1 b=some o→b≠g→(upd H2 g (.lst (ts.map V.ref++[.ref t]))) b=some o:=fun b o e hb=>by
  rw[Ai hb];exact s _ _ e
 refine⟨ts.map V.ref,e2,?_,⟨fun b o e=>kp b o (M.same _ _ e) (Aj e M.new),M.new,ts++[t],by rw[Ab,List.map_append];rfl,?_⟩,kp⟩
 ·
  rw[List.length_map,h2.length]
  exact Nat.lt_of_lt_of_le hl (by decide)
 ·
  exact Paired.snoc (Paired.mapP h2 fun t' y q=>m _ _ _ _ (fun b xs e=>tk b xs (s _ _ e)) q) (m _ _ _ _ tk ht)
def AR (H:Hp)(t:Addr)(s:List Nat):Prop:=H t=some (.tup (s.map nV))
theorem AR.mono:TupMono AR:=fun H H' t x k h=>k _ _ h
section
variable {P:Program}{w:World}{K:PySem.W.Frag}{mg:Str→Option Value}{base:Heap}
def spAllF (K:PySem.W.Frag):Sp:=fun vs H Q _=>∃(wa:Addr) (r:List Nat),vs=[.ref wa]∧SqA K H wa (r.map nV)∧(Su111.states r).length≤27∧r.length≤4∧
 ∀(H':Hp) (l:Addr),Ae H H'→LstAt AR H' l (Su111.states r)→Q (.ref l) H'
theorem scAllF:Aq ["way","fillings","most","grown","filling","held"] ["way"] (Ag sAllF):=⟨rfl,rfl,rfl,by decide +kernel,rfl,by decide +kernel,by decide +kernel⟩
theorem grown_take {l:List (List Nat)}{m j:Nat}{f:List Nat}(h:l[j]?=some f):grown (l.take (j+1)) m=grown (l.take j) m++(List.range (m+1)).map fun h=>f++[h]:=by
 rw[AJ h];unfold grown;rw[List.flatMap_append,List.flatMap_cons,List.flatMap_nil,List.append_nil]
theorem range_take {n h:Nat}{α:Type}(f:Nat→α)(hh:h<n):((List.range n).map f).take (h+1)=((List.range n).map f).take h++[f h]:=by
 apply AJ
 rw[List.getElem?_map,List.getElem?_range hh];rfl
theorem ok_allF {f:Addr}{fd:FuncData}(F:Fun K "all_fillings" "all_fillings" sAllF f fd)(mgR:mg "range"=none):Ah P w K mg base CX0 1 f fd ["way"] (spAllF K):=by
 refine F.ok scAllF (fun vs H Q E h=>?_) (fun cdv A outer s H vs Q E hr h=>?_)
 ·
  obtain⟨wa,r,rfl,_⟩:=h
  rfl
 ·
  obtain⟨wa,r,rfl,hw,h27,h4,k⟩:=h
  have room:∀(i m:Nat),r[i]?=some m→(grown (Su111.states (r.take i)) m).length≤27∧Su111.states (r.take (i+1))=grown (Su111.states (r.take i)) m:=fun i m hi=>by
   have e:Su111.states (r.take (i+1))=grown (Su111.states (r.take i)) m:=by rw[AJ hi,states_snoc]
   refine⟨?_,e⟩
   rw[←e]
   exact Nat.le_trans (states_take_le r (i+1)) h27
  have first:∀(H1:Hp) (t0 l0:Addr),Ae H H1→H1 t0=some (.tup [])→H1 l0=some (.lst [.ref t0])→LstAt AR H1 l0 (Su111.states (r.take 0)):=fun H1 t0 l0 _ h1 h2=>⟨[t0],h2,.cons h1 .nil⟩
  rcases hw with hw | hw
  ·
   refine⟨_,Ad (As (i:=1) scAllF.nd rfl (Or.inl rfl) (AD (Aa (A6 Ac) Ac)))
    (Ad (ps_for PassesOwn.never rfl (A1 (pv 0)) (Au (i:=2) scAllF.nd rfl (Or.inl rfl))
     (Ad (As (i:=3) scAllF.nd rfl (Or.inl rfl) (AD Ac))
     (Ad (ps_for PassesOwn.never rfl (A1 (pv 1)) (Au (i:=4) scAllF.nd rfl (Or.inl rfl))
      (Af (ps_for PassesOwn.never rfl (pi_range1 rfl mgR (Aa (AH op_add (pv 2) Ao) Ac)) (Au (i:=5) scAllF.nd rfl (Or.inl rfl))
       (Af (ps_expr (pe_bm PySem.F.plainAttrs_list PySem.F.slot_list_append PySem.F.type_list_append mt_append (pv 3) (Aa (AH op_catU (pv 4) (A6 (Aa (pv 5) Ac))) Ac)))))))
     (Af (As (i:=1) scAllF.nd rfl (Or.inl rfl) (pv 3))))))
    (Af (Al (pv 1)))),?_⟩
   refine⟨by decide,fun t0 ht0=>⟨(by show 1≤sizeLine;decide),fun l0 hl0=>?_⟩⟩
   have s1:Ae H (upd (upd H t0 (.tup [])) l0 (.lst [.ref t0])):=Ae.trans (Ae.upd ht0) (Ae.upd hl0)
   refine⟨_,rfl,wa,rfl,⟨_,Ae.seq s1 hw⟩,for_list (K:=K) (a:=wa) (xs:=r.map nV) (fun i σ H'=>∃(l:Addr) (v2 v3 v4 v5:Option V),σ=[some (.ref wa),some (.ref l),v2,v3,v4,v5]∧Ae H H'∧LstAt AR H' l (Su111.states (r.take i)))
    ⟨l0,none,none,none,none,rfl,s1,first _ t0 l0 s1 (Ae.upd hl0 _ _ Ab) Ab⟩ (fun i σ H' _ ⟨_,_,_,_,_,_,sm,_⟩=>Ae.seq sm hw) ?_ ?_⟩
   ·
    rintro i y σ H' hi ⟨l,v2,v3,v4,v5,rfl,sm,B⟩
    obtain⟨hlt,rfl⟩:=map_nV_at hi
    have hri:r[i]?=some (r.getD i 0):=by rw[List.getElem?_eq_getElem hlt,List.getD_eq_getElem?_getD,List.getElem?_eq_getElem hlt];rfl
    obtain⟨hb,he⟩:=room i _ hri
    refine⟨Nat.zero_le _,fun g hg=>?_⟩
    have M0:GMk AR H' (upd H' g (.lst [])) g (grown ((Su111.states (r.take i)).take 0) (r.getD i 0)):=GMk.start (Ae.refl _) hg
    obtain⟨ts,hl1,hts⟩:=B
    refine⟨_,rfl,l,rfl,⟨_,SqL.of (M0.same _ _ hl1)⟩,for_list (K:=K) (a:=l) (xs:=ts.map V.ref) (fun j σ H''=>∃(v4 v5:Option V),σ=[some (.ref wa),some (.ref l),some (nV (r.getD i 0)),some (.ref g),v4,v5]∧
      GMk AR H' H'' g (grown ((Su111.states (r.take i)).take j) (r.getD i 0)))
     ⟨_,_,rfl,M0⟩ (fun j σ H'' _ ⟨_,_,_,M⟩=>SqL.of (M.same _ _ hl1)) ?_ ?_⟩
    ·
     rintro j y σ H'' hj ⟨v4,v5,rfl,M⟩
     obtain⟨t,htj,rfl⟩:=AL hj
     obtain⟨fl,hfl,hft⟩:=AF hts htj
     have hft2:=AR.mono _ _ _ _ (same_tup M.same) hft
     have hbl:(grown ((Su111.states (r.take i)).take j) (r.getD i 0)).length≤27:=by
      rw[grown_len] at hb ⊢
      rw[List.length_take]
      exact Nat.le_trans (Nat.mul_le_mul_right _ (Nat.min_le_right _ _)) hb
     have hfb:fl.length≤4:=by
      have:=states_mem_len _ _ (List.mem_of_getElem? hfl)
      rw[this,List.length_take];omega
     have hmb:r.getD i 0≤27:=by
      rw[grown_len] at hb
      have:0<(Su111.states (r.take i)).length:=states_pos _
      have:=Nat.le_mul_of_pos_left (r.getD i 0+1) this
      omega
     have hn:(((r.getD i 0:Nat):Int)+1).toNat=r.getD i 0+1:=by omega
     refine⟨_,rfl,_,_,rfl,rfl,_,rfl,(by show -(2^62:Int)≤((r.getD i 0:Nat):Int)+1;omega),(by show ((r.getD i 0:Nat):Int)+1<2^62;omega),?_⟩
     rw[hn]
     refine for_range (n:=r.getD i 0+1) (fun h σ H3=>∃(v5:Option V),σ=[some (.ref wa),some (.ref l),some (nV (r.getD i 0)),some (.ref g),some (.ref t),v5]∧
       GMk AR H' H3 g (grown ((Su111.states (r.take i)).take j) (r.getD i 0)++((List.range (r.getD i 0+1)).map fun h=>fl++[h]).take h)) ⟨_,rfl,by rw[List.take_zero,List.append_nil];exact M⟩ ?_ ?_
     ·
      rintro h σ H3 hh ⟨v5,rfl,M3⟩
      have hft3:=AR.mono _ _ _ _ (same_tup M3.same) hft
      have e0:(0:Int)+((h:Nat):Int)=((h:Nat):Int):=by omega
      have hl3:(grown ((Su111.states (r.take i)).take j) (r.getD i 0)++((List.range (r.getD i 0+1)).map fun h=>fl++[h]).take h).length<10000:=by
       rw[List.length_append,List.length_take,List.length_map,List.length_range];omega
      have end_:∀(H4:Hp) (q:Addr),Ae H3 H4→AR H4 q (fl++[h])→∀(Q1:Hp→Prop),(∀H5,GMk AR H' H5 g (grown ((Su111.states (r.take i)).take j) (r.getD i 0)++((List.range (r.getD i 0+1)).map fun h=>fl++[h]).take (h+1))→Q1 H5)→
        rAppend (.ref g) [.ref q] H4 (fun _ H5=>Q1 H5):=fun H4 q s4 hq Q1 hQ=>by
       obtain⟨gs,a1,a2,a3,_⟩:=M3.grow AR.mono s4 hq hl3
       refine⟨g,gs,_,rfl,rfl,a1,a2,hQ _ ?_⟩
       rw[range_take _ hh,←List.append_assoc];exact a3
      obtain⟨gs0,hgs0,_⟩:=M3.at_
      rw[e0]
      refine⟨_,rfl,.inl ⟨rfl,_,SqL.of hgs0⟩,_,rfl,_,rfl,(by show 1≤sizeLine;decide),fun t1 ht1=>?_⟩
      have s4:Ae H3 (upd H3 t1 (.tup [nV h])):=Ae.upd ht1
      refine⟨t,t1,fl.map nV,[nV h],rfl,rfl,SqT.of (s4 _ _ hft3),SqT.of Ab,by simp,?_,fun e=>?_,fun e q hq=>?_⟩
      ·
       rw[List.length_map];show fl.length+1≤sizeLine
       exact Nat.le_of_lt (AC (by omega))
      ·
       have ef:fl=[]:=by simpa using e
       refine end_ _ t1 s4 (by show _=_;rw[ef];exact Ab) _ (fun H5 M5=>⟨_,rfl,M5⟩)
      ·
       refine end_ _ q (Ae.trans s4 (Ae.upd hq)) (by show _=_;rw[Ab,List.map_append];rfl) _ (fun H5 M5=>⟨_,rfl,M5⟩)
     ·
      rintro σ H3 ⟨v5,rfl,M3⟩
      refine⟨_,_,rfl,?_⟩
      rw[grown_take hfl]
      have:((List.range (r.getD i 0+1)).map fun h=>fl++[h]).take (r.getD i 0+1)=(List.range (r.getD i 0+1)).map fun h=>fl++[h]:=List.take_of_length_le (by simp)
      rw[this] at M3;exact M3
    ·
     rintro σ H'' ⟨v4,v5,rfl,M⟩
     rw[List.length_map,hts.length,List.take_length] at M
     exact⟨_,rfl,g,_,_,_,_,rfl,Ae.trans sm M.same,by rw[he];exact M.at_⟩
   ·
    rintro σ H' ⟨l,v2,v3,v4,v5,rfl,sm,B⟩
    rw[List.length_map,List.take_length] at B
    exact⟨_,rfl,k _ _ sm B⟩
  ·
   refine⟨_,Ad (As (i:=1) scAllF.nd rfl (Or.inl rfl) (AD (Aa (A6 Ac) Ac)))
    (Ad (ps_for PassesOwn.never rfl (pi_tup (pv 0)) (Au (i:=2) scAllF.nd rfl (Or.inl rfl))
     (Ad (As (i:=3) scAllF.nd rfl (Or.inl rfl) (AD Ac))
     (Ad (ps_for PassesOwn.never rfl (A1 (pv 1)) (Au (i:=4) scAllF.nd rfl (Or.inl rfl))
      (Af (ps_for PassesOwn.never rfl (pi_range1 rfl mgR (Aa (AH op_add (pv 2) Ao) Ac)) (Au (i:=5) scAllF.nd rfl (Or.inl rfl))
       (Af (ps_expr (pe_bm PySem.F.plainAttrs_list PySem.F.slot_list_append PySem.F.type_list_append mt_append (pv 3) (Aa (AH op_catU (pv 4) (A6 (Aa (pv 5) Ac))) Ac)))))))
     (Af (As (i:=1) scAllF.nd rfl (Or.inl rfl) (pv 3))))))
    (Af (Al (pv 1)))),?_⟩
   refine⟨by decide,fun t0 ht0=>⟨(by show 1≤sizeLine;decide),fun l0 hl0=>?_⟩⟩
   have s1:Ae H (upd (upd H t0 (.tup [])) l0 (.lst [.ref t0])):=Ae.trans (Ae.upd ht0) (Ae.upd hl0)
   refine⟨_,rfl,wa,rfl,⟨_,sqT_same s1 hw⟩,for_tup (K:=K) (a:=wa) (xs:=r.map nV) (fun i σ H'=>∃(l:Addr) (v2 v3 v4 v5:Option V),σ=[some (.ref wa),some (.ref l),v2,v3,v4,v5]∧Ae H H'∧LstAt AR H' l (Su111.states (r.take i)))
    ⟨l0,none,none,none,none,rfl,s1,first _ t0 l0 s1 (Ae.upd hl0 _ _ Ab) Ab⟩ (fun i σ H' _ ⟨_,_,_,_,_,_,sm,_⟩=>sqT_same sm hw) ?_ ?_⟩
   ·
    rintro i y σ H' hi ⟨l,v2,v3,v4,v5,rfl,sm,B⟩
    obtain⟨hlt,rfl⟩:=map_nV_at hi
    have hri:r[i]?=some (r.getD i 0):=by rw[List.getElem?_eq_getElem hlt,List.getD_eq_getElem?_getD,List.getElem?_eq_getElem hlt];rfl
    obtain⟨hb,he⟩:=room i _ hri
    refine⟨Nat.zero_le _,fun g hg=>?_⟩
    have M0:GMk AR H' (upd H' g (.lst [])) g (grown ((Su111.states (r.take i)).take 0) (r.getD i 0)):=GMk.start (Ae.refl _) hg
    obtain⟨ts,hl1,hts⟩:=B
    refine⟨_,rfl,l,rfl,⟨_,SqL.of (M0.same _ _ hl1)⟩,for_list (K:=K) (a:=l) (xs:=ts.map V.ref) (fun j σ H''=>∃(v4 v5:Option V),σ=[some (.ref wa),some (.ref l),some (nV (r.getD i 0)),some (.ref g),v4,v5]∧
      GMk AR H' H'' g (grown ((Su111.states (r.take i)).take j) (r.getD i 0)))
     ⟨_,_,rfl,M0⟩ (fun j σ H'' _ ⟨_,_,_,M⟩=>SqL.of (M.same _ _ hl1)) ?_ ?_⟩
    ·
     rintro j y σ H'' hj ⟨v4,v5,rfl,M⟩
     obtain⟨t,htj,rfl⟩:=AL hj
     obtain⟨fl,hfl,hft⟩:=AF hts htj
     have hft2:=AR.mono _ _ _ _ (same_tup M.same) hft
     have hbl:(grown ((Su111.states (r.take i)).take j) (r.getD i 0)).length≤27:=by
      rw[grown_len] at hb ⊢
      rw[List.length_take]
      exact Nat.le_trans (Nat.mul_le_mul_right _ (Nat.min_le_right _ _)) hb
     have hfb:fl.length≤4:=by
      have:=states_mem_len _ _ (List.mem_of_getElem? hfl)
      rw[this,List.length_take];omega
     have hmb:r.getD i 0≤27:=by
      rw[grown_len] at hb
      have:0<(Su111.states (r.take i)).length:=states_pos _
      have:=Nat.le_mul_of_pos_left (r.getD i 0+1) this
      omega
     have hn:(((r.getD i 0:Nat):Int)+1).toNat=r.getD i 0+1:=by omega
     refine⟨_,rfl,_,_,rfl,rfl,_,rfl,(by show -(2^62:Int)≤((r.getD i 0:Nat):Int)+1;omega),(by show ((r.getD i 0:Nat):Int)+1<2^62;omega),?_⟩
     rw[hn]
     refine for_range (n:=r.getD i 0+1) (fun h σ H3=>∃(v5:Option V),σ=[some (.ref wa),some (.ref l),some (nV (r.getD i 0)),some (.ref g),some (.ref t),v5]∧
       GMk AR H' H3 g (grown ((Su111.states (r.take i)).take j) (r.getD i 0)++((List.range (r.getD i 0+1)).map fun h=>fl++[h]).take h)) ⟨_,rfl,by rw[List.take_zero,List.append_nil];exact M⟩ ?_ ?_
     ·
      rintro h σ H3 hh ⟨v5,rfl,M3⟩
      have hft3:=AR.mono _ _ _ _ (same_tup M3.same) hft
      have e0:(0:Int)+((h:Nat):Int)=((h:Nat):Int):=by omega
      have hl3:(grown ((Su111.states (r.take i)).take j) (r.getD i 0)++((List.range (r.getD i 0+1)).map fun h=>fl++[h]).take h).length<10000:=by
       rw[List.length_append,List.length_take,List.length_map,List.length_range];omega
      have end_:∀(H4:Hp) (q:Addr),Ae H3 H4→AR H4 q (fl++[h])→∀(Q1:Hp→Prop),(∀H5,GMk AR H' H5 g (grown ((Su111.states (r.take i)).take j) (r.getD i 0)++((List.range (r.getD i 0+1)).map fun h=>fl++[h]).take (h+1))→Q1 H5)→
        rAppend (.ref g) [.ref q] H4 (fun _ H5=>Q1 H5):=fun H4 q s4 hq Q1 hQ=>by
       obtain⟨gs,a1,a2,a3,_⟩:=M3.grow AR.mono s4 hq hl3
       refine⟨g,gs,_,rfl,rfl,a1,a2,hQ _ ?_⟩
       rw[range_take _ hh,←List.append_assoc];exact a3
      obtain⟨gs0,hgs0,_⟩:=M3.at_
      rw[e0]
      refine⟨_,rfl,.inl ⟨rfl,_,SqL.of hgs0⟩,_,rfl,_,rfl,(by show 1≤sizeLine;decide),fun t1 ht1=>?_⟩
      have s4:Ae H3 (upd H3 t1 (.tup [nV h])):=Ae.upd ht1
      refine⟨t,t1,fl.map nV,[nV h],rfl,rfl,SqT.of (s4 _ _ hft3),SqT.of Ab,by simp,?_,fun e=>?_,fun e q hq=>?_⟩
      ·
       rw[List.length_map];show fl.length+1≤sizeLine
       exact Nat.le_of_lt (AC (by omega))
      ·
       have ef:fl=[]:=by simpa using e
       refine end_ _ t1 s4 (by show _=_;rw[ef];exact Ab) _ (fun H5 M5=>⟨_,rfl,M5⟩)
      ·
       refine end_ _ q (Ae.trans s4 (Ae.upd hq)) (by show _=_;rw[Ab,List.map_append];rfl) _ (fun H5 M5=>⟨_,rfl,M5⟩)
     ·
      rintro σ H3 ⟨v5,rfl,M3⟩
      refine⟨_,_,rfl,?_⟩
      rw[grown_take hfl]
      have:((List.range (r.getD i 0+1)).map fun h=>fl++[h]).take (r.getD i 0+1)=(List.range (r.getD i 0+1)).map fun h=>fl++[h]:=List.take_of_length_le (by simp)
      rw[this] at M3;exact M3
    ·
     rintro σ H'' ⟨v4,v5,rfl,M⟩
     rw[List.length_map,hts.length,List.take_length] at M
     exact⟨_,rfl,g,_,_,_,_,rfl,Ae.trans sm M.same,by rw[he];exact M.at_⟩
   ·
    rintro σ H' ⟨l,v2,v3,v4,v5,rfl,sm,B⟩
    rw[List.length_map,List.take_length] at B
    exact⟨_,rfl,k _ _ sm B⟩
end
end Wk
namespace Rv
open PySem PySem.Spec PyProof.Rows PySem.W
structure LamTxt (x y:Str)(params:Arguments)(scope:Scope):Prop where
 kind:scope.kind=.function
 co:scope.isCoroutine=false
 gen:scope.isGenerator=false
 nocell:∀z∈scope.names,z.2≠.cell
 loc:scope.names.lookup x=some .local
 free:scope.names.lookup y=some .free
 xd:(x==("__debug__":Str))=false
 yd:(y==("__debug__":Str))=false
 yc:(y==("__classdict__":Str))=false
 binds:∀(qual:Str) (body:Expr) (cl:List (Str×Addr)) (pm cd ct v:Value),bindArgs (kla_fn "<lambda>" qual params body scope cl pm cd ct) ⟨[v],[]⟩=pure [(x,v)]
section
variable {prog:Program}{w:World}{A:Around}{E:Value→Shared→Prop}{s:Shared}
theorem lam_call {x y qual:Str}{params:Arguments}{scope:Scope}{p1 p2 p3:Pos}{cl:List (Str×Addr)}{pm ct:Value}{f c' c tp:Addr}{vs:Array Value}{n:Int}{j:Nat}{z:Value}{t:Tok}{Q:Value→Shared→Prop}
  (T:LamTxt x y params scope)(hroom:A.depth<recursionLimit)(lim:s.heap.NoLimit)
  (hf:s.heap.get? f=some (kla_obj "<lambda>" qual params (.Subscript (.Name x p1) (.Name y p2) p3) scope cl pm c' ct))(hcd:s.heap.CodeRec (.ref c') qual)
  (hcl:cl.lookup y=some c)(hc:s.heap.IsCell c (some (.int n t)))(ht:IsTup s.heap tp vs)(h1:-(2^63)≤n)(h2:n<2^63)(hj:seqIndex? n vs.size=some j)(hz:vs[j]?=some z)
  (k:∀h' tk,(∀b o,s.heap.get? b=some o→h'.get? b=some o)→Q z {s with heap:=h',toks:=tk}):wpAny (model prog w) A (call (.ref f) [.ref tp]) Q E s:=by
 refine wpAny_call (kla_callFunE hroom hf rfl T.co T.gen rfl hcd ?_)
 rw[T.binds]
 refine wpAny_pure ?_
 refine wpAny_newFunctionEnv T.nocell (fun b hb=>?_) (fun h' hns hsb=>⟨lim.fresh _ hsb,?_⟩) T.kind
 ·
  rw[List.mem_singleton.mp hb];exact T.loc
 ·
  have keep:∀b o,s.heap.get? b=some o→h'.get? b=some o:=fun b o e=>hsb.extBut b o (Nat.ne_of_lt (Heap.lt_size e)) (Heap.get?_push_of_some _ e)
  refine kla_codeExpr (Subscript_ ?_)
  refine wpAny_Name (wpAny_loadName_local (v:=.ref tp) T.kind T.loc hns ?_ ?_) T.xd
  ·
   show List.lookup x ([(x,Value.ref tp)].reverse)=_
   simp
  ·
   refine wpAny_Name (wpAny_loadName_free (c:=c) (v:=.int n t) T.kind T.free hcl ?_ ?_ T.yc) T.yd
   ·
    obtain⟨o,ho,hd⟩:=hc
    exact⟨o,keep _ _ ho,hd⟩
   ·
    have ht':IsTup h' tp vs:=by
     obtain⟨o,ho,r⟩:=ht
     exact⟨o,keep _ _ ho,r⟩
    refine subscriptTail_builtinR (x:=z) ht'.typeIs slot_tuple_getitem.lookup (getItem_tuple (j:=j) ht' h1 h2 hj hz ⟨rfl,?_⟩) (by with_unfolding_all rfl)
    exact k h' _ keep
end
end Rv
namespace L2
open PySem PySem.Spec PyProof.Rows
def crec (q:Str)(c:Addr):Heap→Prop:=fun h=>h.CodeRec (.ref c) q
structure Tab (P:Addr)(pos:Pos)(q:Str)(H:Hp):Prop where
 ex:∃ps:Array Value,H P=some (.tbl ps)∧TriplesOk ps.toList∧(codeAmong pos ps.toList=none∨∃c,codeAmong pos ps.toList=some (.ref c)∧H c=some (.ext (crec q c)))
def A8 (P:Addr)(H H':Hp):Prop:=∀b o,H b=some o→b≠P→H' b=some o
theorem A8.of {P:Addr}{H H':Hp}(s:Ae H H'):A8 P H H':=fun b o e _=>s b o e
theorem A8.refl (P:Addr)(H:Hp):A8 P H H:=fun _ _ e _=>e
theorem A8.trans {P:Addr}{H H1 H2:Hp}(a:A8 P H H1)(b:A8 P H1 H2):A8 P H H2:=fun c o e h=>b c o (a c o e h) h
theorem Tab.same {P:Addr}{pos:Pos}{q:Str}{H H':Hp}(t:Tab P pos q H)(s:Ae H H'):Tab P pos q H':=by
 obtain⟨ps,h1,h2,h3⟩:=t.ex
 refine⟨ps,s _ _ h1,h2,?_⟩
 rcases h3 with h | ⟨c,h,e⟩
 ·
  exact .inl h
 ·
  exact .inr ⟨c,h,s _ _ e⟩
theorem crec_stay {q:Str}{c:Addr}{h1 h2:Heap}(x:crec q c h1)(k:∀o,h1.get? c=some o→h2.get? c=some o):crec q c h2:=by
 obtain⟨c',o,vs,t,e,g,r⟩:=x
 cases e
 exact⟨c,o,vs,t,rfl,k _ g,r⟩
section
variable {X:Cx}{pins:List (Addr×Obj)}{σ:List (Option V)}{H:Hp}{s:Shared}
theorem Inv.tabled {P c':Addr}{q:Str}{ps more:Array Value}{h':Heap}{t':Nat}(I:Inv X pins σ H s)(hP:H P=some (.tbl ps))(k:∀b o,b≠P→s.heap.get? b=some o→h'.get? b=some o)
  (hc:s.heap.objs.size≤c')(hrec:h'.CodeRec (.ref c') q)(htb:h'.get? P=some {cls:=.none,data:=.fields (ps++more)}):
  Inv X pins σ (upd (upd H P (.tbl (ps++more))) c' (.ext (crec q c'))) {s with heap:=h',toks:=t'}:=by
 have hPo:∃o,s.heap.get? P=some o:=⟨_,(show s.heap.get? P=some {cls:=.none,data:=.fields ps} from I.hok P _ hP)⟩
 have hPc:P≠c':=fun z=>by
  obtain⟨o,e⟩:=hPo
  exact absurd (Heap.lt_size e) (Nat.not_lt.mpr (z▸hc))
 have cn:H c'=none:=I.hok.fresh hc
 have ne:∀b o,H b=some o→b≠c':=fun b o e=>Aj e cn
 have nP:∀b,H b=none→b≠P:=fun b e z=>by rw[z,hP] at e;cases e
 have old:∀b o,b≠P→H b=some o→(upd (upd H P (.tbl (ps++more))) c' (.ext (crec q c'))) b=some o:=fun b o hb e=>by
  rw[Ai (ne b o e),Ai hb];exact e
 refine I.step (g':=s.gens) (d':=s.drawn) (ch:=[]) (fun _ z=>nomatch z) (fun b o _ _ _ e n=>k b o (nP b n) e) (fun b o _ _ _ e n=>⟨o.slots,k b o (nP b n) e⟩) (fun b o _ e n=>?_) (fun b o _ e=>?_) (fun b xs e=>?_) (fun b o u e=>?_) (fun b qs e=>?_) (fun m hm=>?_) (fun b u e=>?_) I.bare
 ·
  rw[Ai (fun (z:b=c')=>absurd (Heap.lt_size e) (Nat.not_lt.mpr (by rw[z];exact hc))),Ai (nP b n)];exact n
 ·
  by_cases hb:b=P
  ·
   exact⟨_,hb▸htb⟩
  ·
   exact⟨o,k b o hb e⟩
 ·
  exact old b _ (fun z=>by rw[z,hP] at e;cases e) e
 ·
  exact old b _ (fun z=>by rw[z,hP] at e;cases e) e
 ·
  by_cases hb:b=P
  ·
   subst hb
   rw[hP] at e;cases e
   exact⟨more,by rw[Ai hPc,Ab]⟩
  ·
   exact⟨#[],by rw[Array.append_empty];exact old b _ hb e⟩
 ·
  obtain⟨o,es,ep,ho,r⟩:=hm
  exact⟨o,es,ep,k _ o (nP _ I.free) ho,r⟩
 ·
  by_cases hbc:b=c'
  ·
   subst hbc
   rw[Ab] at e;cases e
   refine⟨hrec,?_,fun h1 h2 x kk=>crec_stay x kk⟩
   obtain⟨c2,o,vs,t,e2,g,_⟩:=hrec
   cases e2
   exact⟨o,g⟩
  ·
   rw[Ai hbc] at e
   by_cases hb:b=P
   ·
    subst hb
    rw[Ab] at e;cases e
    exact htb
   ·
    rw[Ai hb] at e
    refine (I.hok b u e).stay (fun d v hd r=>k d v ?_ r) (fun d r=>?_) fun d xs r=>?_
    ·
     rcases hd with z | z
     ·
      rw[z];exact hb
     ·
      intro zz;rw[zz,hP] at z;cases z
    ·
     exact old d _ (fun zz=>by rw[zz,hP] at r;cases r) r
    ·
     exact old d _ (fun zz=>by rw[zz,hP] at r;cases r) r
theorem Inv.untracked {D:Addr}(I:Inv X pins σ H s)(hD:s.heap.get? D=none):H D=none:=by
 cases e:H D with
 | none=>rfl
 |
  some u=>
  have:=I.hok.lt e
  have hx:=(I.hok D u e)
  exfalso
  have:∃o,s.heap.get? D=some o:=by
   cases u with
   | lst xs=>obtain⟨_,_,_,_,e⟩:=hx;exact⟨_,e⟩
   | tup xs=>obtain⟨_,_,_,⟨o,e,_⟩,_⟩:=hx;exact⟨_,e⟩
   | dK kvs=>obtain⟨_,_,_,_,o,_,_,e,_⟩:=hx;exact⟨_,e⟩
   | dT kvs=>obtain⟨_,_,_,_,o,_,_,e,_⟩:=hx;exact⟨_,e⟩
   | set S n=>obtain⟨o,_,_,_,e,_⟩:=hx;exact⟨_,e⟩
   | ins C dx fs=>obtain⟨_,_,_,e,_⟩:=hx;exact⟨_,e⟩
   | own y=>exact hx
   | xd fs=>obtain⟨_,⟨_,_,_,e,_⟩,_⟩:=hx;exact⟨_,e⟩
   | rng lo hi=>obtain⟨_,_,_,e⟩:=hx;exact⟨_,e⟩
   | frz ob u=>obtain⟨e,_⟩:=hx;exact⟨_,e⟩
   | tbl ps=>exact⟨_,(show s.heap.get? D=some _ from hx)⟩
   | met f y=>exact⟨_,(show s.heap.get? D=some _ from hx)⟩
   | ext φ=>obtain⟨_,e,_⟩:=hx;exact e
  obtain⟨o,e⟩:=this
  rw[hD] at e;cases e
theorem Inv.sorted {D:Addr}{xs:List V}{its:List Value}{n:Nat}{h':Heap}{t':Nat}(I:Inv X pins σ H s)(k:∀b o,b≠X.env.locals→s.heap.get? b=some o→h'.get? b=some o)(ns:∀m,s.heap.Ns X.env.locals m→h'.Ns X.env.locals m)
  (hD:s.heap.get? D=none)(hl:xs.length≤sizeLine)(hv:AG xs its)(hn:h'.get? D=some {cls:=.type "list",data:=.seq its.toArray n}):
  Inv X pins σ (upd H D (.lst xs)) {s with heap:=h',toks:=t'}:=by
 have Dn:H D=none:=I.untracked hD
 have old:∀b o,H b=some o→(upd H D (.lst xs)) b=some o:=fun b o e=>by rw[Ai (Aj e Dn)];exact e
 refine I.step (g':=s.gens) (d':=s.drawn) (ch:=[]) (fun _ z=>nomatch z) (fun b o hb _ _ e n=>k b o hb e) (fun b o hb _ _ e n=>⟨o.slots,k b o hb e⟩) (fun b o _ e n=>?_) (fun b o _ e=>?_) (fun b ys e=>old _ _ e) (fun b o u e=>old _ _ e) (fun b qs e=>⟨#[],by rw[Array.append_empty];exact old _ _ e⟩) ns (fun b u e=>?_) I.bare
 ·
  rw[Ai (fun z=>by rw[z,hD] at e;cases e)];exact n
 ·
  by_cases hb:b=X.env.locals
  ·
   obtain⟨m,hm,_⟩:=I.loc
   obtain⟨o',_,_,e',_⟩:=ns m hm
   exact⟨o',hb▸e'⟩
  ·
   exact⟨o,k b o hb e⟩
 ·
  by_cases hb:b=D
  ·
   subst hb
   rw[Ab] at e;cases e
   exact⟨hl,its,n,hv,hn⟩
  ·
   rw[Ai hb] at e
   refine (I.hok b u e).stay (fun d v hd r=>k d v ?_ r) (fun d r=>old _ _ r) fun d ys r=>old _ _ r
   rcases hd with z | z
   ·
    rw[z];intro zz;rw[zz,I.free] at e;cases e
   ·
    intro zz;rw[zz,I.free] at z;cases z
theorem perm_map {α β:Type}(f:α→β){ps qs:List β}(h:ps.Perm qs):∀{zs:List α},qs=zs.map f→∃ys:List α,ys.Perm zs∧ps=ys.map f:=by
 induction h with
 | nil=>intro zs e;exact⟨[],by cases zs<;>simp_all,rfl⟩
 |
  cons x h ih=>
  intro zs e
  cases zs with
  | nil=>simp at e
  |
   cons z zs=>
   rw[List.map_cons] at e
   obtain⟨e1,e2⟩:=List.cons.inj e
   obtain⟨ys,p,e3⟩:=ih e2
   exact⟨z::ys,p.cons z,by rw[List.map_cons,←e3,e1]⟩
 |
  swap x y l=>
  intro zs e
  match zs,e with
  | [],e=>simp at e
  | [z],e=>simp at e
  |
   z1::z2::zs,e=>
   rw[List.map_cons,List.map_cons] at e
   obtain⟨e1,e2⟩:=List.cons.inj e
   obtain⟨e3,e4⟩:=List.cons.inj e2
   exact⟨z2::z1::zs,List.Perm.swap _ _ _,by rw[List.map_cons,List.map_cons,e1,e3,e4]⟩
 |
  trans _ _ ih1 ih2=>
  intro zs e
  obtain⟨ys,p,e2⟩:=ih2 e
  obtain⟨ws,p2,e3⟩:=ih1 e2
  exact⟨ws,p2.trans p,e3⟩
structure ByKey (n:Nat)(l l':List (List Nat)):Prop where
 perm:l'.Perm l
 up:l'.Pairwise fun a b=>a.getD n 0≤b.getD n 0
 stays:∀c:Nat,l'.filter (fun a=>a.getD n 0==c)=l.filter (fun a=>a.getD n 0==c)
end
end L2
namespace Wk
open PySem PySem.Spec PyProof.Rows L2 Rb
def tSortLam (K:PySem.W.Frag)(P:Addr)(lpos:Pos)(lq:Str)(i:Nat)(ta:TA):TE:=fun σ H Q=>ta σ H fun vs H1=>∃(a:Addr) (ts:List Addr) (l:List (List Nat)) (n:Nat),
 vs=[.ref a]∧SqL K H1 a (ts.map V.ref)∧Paired (AR H1) ts l∧(∀s∈l,n<s.length∧s.length≤1000)∧l.length≤1000∧σ[i]?=some (some (nV n))∧Tab P lpos lq H1∧
 ∀(H2:Hp) (D:Addr) (l':List (List Nat)),A8 P H1 H2→Tab P lpos lq H2→ByKey n l l'→LstAt AR H2 D l'→Q (.ref D) H2
structure LamAt (X:Cx)(P c0:Addr)(lq x y:Str)(i:Nat)(params:Arguments)(lscope:Scope):Prop where
 txt:Rv.LamTxt x y params lscope
 slot:X.N[i]?=some y
 cell:X.env.scope.names.lookup y=some .cell
 names:lscope.names=[(x,.local),(y,.free)]
 code:X.env.code=.ref c0
 hd:PySem.W.codeHdIn X.K c0 P=true
 blt:X.base.BuiltinsAt X.mg P
 qual:X.env.qual++("<lambda>":Str)=lq
 dflt:defaultsOf params X.env=([],[])
section
variable {X:Cx}{pins:List (Addr×Obj)}{σ:L2.St}{H:Hp}{s:Shared}{P c0:Addr}{lq x y:Str}{i:Nat}{params:Arguments}{lscope:Scope}{lpos:Pos}{body:Expr}
theorem LamAt.at_ (T:LamAt X P c0 lq x y i params lscope)(I:Inv X pins σ H s){n:Nat}(hn:σ[i]?=some (some (nV n))):∃c t,X.env.cells.lookup y=some c∧s.heap.IsCell c (some (.int (n:Nat) t)):=by
 obtain⟨m,hm,hl⟩:=I.loc
 obtain⟨u,r,l⟩:=hl i y _ T.slot hn (.inr (.inl T.cell))
 obtain⟨t,rfl⟩:=r
 rcases l with ⟨hk,_⟩ | ⟨_,c,e,z⟩
 ·
  have:X.env.scope.names.lookup y=some .local:=hk
  rw[T.cell] at this;cases this
 ·
  exact⟨c,t,e,z⟩
theorem lam_cl (cells:List (Str×Addr))(c:Addr)(h:cells.lookup y=some c):A0 cells [(x,.local),(y,.free)] []=[(y,c)]:=by
 show A0 cells [(y,.free)] []=_
 show [(y,(cells.lookup y).getD 0)]=_
 rw[h];rfl
theorem mk_lam {c:Addr}{E:Value→Shared→Prop}{Q:Value→Shared→Prop}(T:LamAt X P c0 lq x y i params lscope)(I:Inv X pins σ H s)(hc:X.env.cells.lookup y=some c)(tb:Tab P lpos lq H)
  (k:∀(f c':Addr) (pm ct:Value) (H':Hp) (s':Shared),Inv X pins σ H' s'→A8 P H H'→Tab P lpos lq H'→s'.heap.get? f=some (PySem.W.kla_obj "<lambda>" lq params body lscope [(y,c)] pm c' ct)→s'.heap.CodeRec (.ref c') lq→
   (∀b o,b≠P→s.heap.get? b=some o→s'.heap.get? b=some o)→Q (.ref f) s'):wpAny (model X.prog X.w) X.A (eval (.Lambda params body lscope lpos) X.env) Q E s:=by
 obtain⟨ps,hP,ht,hca⟩:=tb.ex
 have hPo:s.heap.get? P=some (PySem.W.tabObj ps):=I.hok P _ hP
 have hCd:PySem.W.CodeHd s.heap c0 P:=PySem.W.codeHd_of_K I.kIn T.hd
 have hcl:closureFor lscope X.env=pure [(y,c)]:=by
  rw[closure_ok (fun z hz e=>?_),T.names,lam_cl _ c hc]
  rw[T.names] at hz
  rcases List.mem_cons.mp hz with q | q
  ·
   rw[q] at e;cases e
  ·
   rw[List.mem_singleton.mp q];exact⟨c,hc⟩
 have hgl:s.heap.Ns mainGlobals X.mg:=I.ok.mod.glob.keeps I.bk
 have hgP:mainGlobals≠P:=fun z=>by
  obtain⟨o,_,_,e,_⟩:=I.ok.mod.glob
  have:=(I.bs _ _ e).2
  rw[z,hP] at this;cases this
 have hbl:s.heap.BuiltinsAt X.mg P:=by
  obtain⟨bm,o,b1,b2,b3,b4,b5,b6⟩:=T.blt
  exact⟨bm,o,b1,b2,b3,b4,I.bk _ _ b5,b6⟩
 refine PySem.W.kla_eval T.dflt ?_
 rw[T.qual]
 rcases hca with hno | ⟨c',hyes,hext⟩
 ·
  refine PySem.W.kla_makeFunction (c:=c0) hcl I.ok.glob hgl T.code hCd hPo ht hno hgP hbl fun c' ctv h' tk hx hge hlt hrec htb=>?_
  have I1:=I.tabled (t':=tk) hP (fun b o hb e=>hx b o hb e) hge hrec htb
  have cn:H c'=none:=I.hok.fresh hge
  have hPc:P≠c':=Aj hP cn
  refine k _ c' _ ctv _ _ (I1.kept (t':=tk) fun b u e=>Heap.get?_push_of_some _ e) (fun b o e hb=>by rw[Ai (Aj e cn),Ai hb];exact e) ⟨_,by rw[Ai hPc,Ab],?_,.inr ⟨c',?_,Ab⟩⟩ (Heap.get?_push_size _ rfl) (hrec.push _)
   (fun b o hb e=>Heap.get?_push_of_some _ (hx b o hb e))
  ·
   have:=TriplesOk_snoc lpos.line lpos.col (.ref c') _ ht
   simpa using this
  ·
   have:=codeAmong_snoc (pos:=lpos) (c:=.ref c') _ ht hno
   simpa using this
 ·
  obtain⟨hrec,_,_⟩:=I.hok c' _ hext
  refine PySem.W.kla_makeFunctionHit (c:=c0) hcl I.ok.glob hgl T.code hCd hPo ht hyes hbl fun ctv h' tk hk hsz=>?_
  refine k _ c' _ ctv H _ (I.kept (t':=tk) fun b u e=>Heap.get?_push_of_some _ (hk b u e)) (A8.refl P H) tb (Heap.get?_push_size _ rfl) ((show s.heap.CodeRec (.ref c') lq from hrec).keeps fun b o e=>Heap.get?_push_of_some _ (hk b o e))
   (fun b o _ e=>Heap.get?_push_of_some _ (hk b o e))
theorem A8.lst {K:PySem.W.Frag}{H H':Hp}{pos:Pos}{q:Str}(t:A8 P H H')(tb:Tab P pos q H){a:Addr}{xs:List V}(h:SqL K H a xs):SqL K H' a xs:=by
 obtain⟨ps,hP,_⟩:=tb.ex
 rcases h with (h | ⟨o,h⟩) | h
 ·
  exact .inl (.inl (t _ _ h fun z=>by rw[z,hP] at h;cases h))
 ·
  exact .inl (.inr ⟨o,t _ _ h fun z=>by rw[z,hP] at h;cases h⟩)
 ·
  exact .inr h
theorem A8.tup {H H':Hp}{pos:Pos}{q:Str}(t:A8 P H H')(tb:Tab P pos q H):∀b xs,H b=some (.tup xs)→H' b=some (.tup xs):=fun b xs e=>by
 obtain⟨ps,hP,_⟩:=tb.ex
 exact t _ _ e fun z=>by rw[z,hP] at e;cases e
theorem vals_refs:∀{ts:List Addr} {us:List Value},AG (ts.map V.ref) us→us=ts.map Value.ref
 | [],_,.nil=>rfl
 |
  t::ts,_,.cons r rr=>by
  cases r
  rw[vals_refs rr];rfl
theorem refs_vals:∀(ts:List Addr),AG (ts.map V.ref) (ts.map Value.ref)
 | []=>.nil
 | t::ts=>.cons rfl (refs_vals ts)
theorem paired_zip {F:Addr→List Nat→Prop}:∀{ts:List Addr} {l:List (List Nat)},Paired F ts l→(ts.zip l).map (·.1)=ts∧(ts.zip l).map (·.2)=l∧(∀z∈ts.zip l,F z.1 z.2)∧ts.length=l.length
 | _,_,.nil=>⟨rfl,rfl,fun z hz=>by simp at hz,rfl⟩
 |
  _,_,.cons h t=>by
  obtain⟨a,b,c,d⟩:=paired_zip t
  refine⟨by simp[a],by simp[b],fun z hz=>?_,by simp[d]⟩
  rw[List.zip_cons_cons] at hz
  rcases List.mem_cons.mp hz with e | e
  ·
   rw[e];exact h
  ·
   exact c z e
theorem paired_of {F:Addr→List Nat→Prop}:∀(zs:List (Addr×List Nat)),(∀z∈zs,F z.1 z.2)→Paired F (zs.map (·.1)) (zs.map (·.2))
 | [],_=>.nil
 | z::zs,h=>.cons (h z (by simp)) (paired_of zs fun y hy=>h y (by simp[hy]))
theorem nV_inj {a b:List Nat}(h:a.map nV=b.map nV):a=b:=by
 induction a generalizing b with
 |
  nil=>cases b with
  | nil=>rfl
  | cons _ _=>simp at h
 |
  cons x a ih=>cases b with
  | nil=>simp at h
  |
   cons y b=>
   rw[List.map_cons,List.map_cons] at h
   obtain⟨e1,e2⟩:=List.cons.inj h
   have:((x:Nat):Int)=((y:Nat):Int):=V.int.inj e1
   rw[ih e2,show x=y by omega]
theorem map_inj_on {α β:Type}(f:α→β):∀{xs ys:List α},(∀x∈xs,∀y∈ys,f x=f y→x=y)→xs.map f=ys.map f→xs=ys
 | [],[],_,_=>rfl
 | [],y::ys,_,e=>by simp at e
 | x::xs,[],_,e=>by simp at e
 |
  x::xs,y::ys,h,e=>by
  rw[List.map_cons,List.map_cons] at e
  obtain⟨e1,e2⟩:=List.cons.inj e
  rw[h x (by simp) y (by simp) e1,map_inj_on f (fun a ha b hb=>h a (by simp[ha]) b (by simp[hb])) e2]
theorem key_at (its:List Value)(st:List Nat)(hv:AG (st.map nV) its)(n:Nat)(hn:n<st.length):∃t,its.toArray[n]?=some (.int ((st.getD n 0:Nat):Int) t):=by
 have:(st.map nV)[n]?=some (nV (st.getD n 0)):=by
  rw[List.getElem?_map,List.getElem?_eq_getElem hn,List.getD_eq_getElem?_getD,List.getElem?_eq_getElem hn];rfl
 obtain⟨u,hu,r⟩:=hv.get this
 obtain⟨t,rfl⟩:=r
 exact⟨t,by simpa using hu⟩
theorem pe_sortLam {e:Expr}{ta:TA}{p pos kpos p1 p2 p3:Pos}{k:Nat}(hc:X.calm=true)(hr:AM (k+2) X.A)(hg:Gl X "sorted")(hm:X.mg "sorted"=none)(T:LamAt X P c0 lq x y i params lscope)(ha:PA X [e] ta)
  (hs:backTo pos (starEach [e] X.env)=[(false,eval e X.env)]:=by rfl)(hpl:(backTo pos (starEach [e] X.env)).any (·.1)=false:=by rfl):
  PE X (.Call (.Name "sorted" p) [e] [⟨some "key",.Lambda params (.Subscript (.Name x p1) (.Name y p2) p3) lscope lpos,kpos⟩] pos) (tSortLam X.K P lpos lq i ta):=by
 intro pins s σ H Q I h
 refine wpAny_Call_Name_kw (ld_blt I hg hm boot_sorted ?_)
 refine callWith_kw (thn (ha pos pins s σ H _ I h) fun us s1 ⟨vs,H1,I1,r1,q1⟩=>?_) hs hpl rfl rfl
 obtain⟨a,ts,l,n,rfl,hq,hts,hsh,hlen,hσ,tb,fin⟩:=q1
 rw[AG.ref1 r1]
 obtain⟨c,tn,hcl,hcell⟩:=T.at_ I1 hσ
 show wpAny _ _ (evalAll ((do let v←eval (.Lambda params (.Subscript (.Name x p1) (.Name y p2) p3) lscope lpos) X.env;standAt pos;pure v)::[])) _ _ s1
 refine wpAny_evalAll_cons (wpAny_bind (mk_lam T I1 hcl tb fun f c' pm ct H2 s2 I2 sT tb2 hf hrec kp=>wpAny_bind (wpAny_standAt (wpAny_pure (wpAny_evalAll_nil ?_)))))
 show wpAny _ _ (call (.builtin "sorted") [.ref a] [(Str.ofString "key",.ref f)]) _ _ s2
 obtain⟨m,F⟩:=I2.fr
 have N:News X.base X.env.locals s2.heap (allNews X.base s2.heap X.env.locals):=news_all
 obtain⟨its,rv,hl2,_⟩:=I2.list (A8.lst sT tb hq)
 have eits:=vals_refs rv
 subst eits
 have hts2:Paired (AR H2) ts l:=Paired.mapP hts fun t st q=>AR.mono _ _ _ _ (A8.tup sT tb) q
 obtain⟨z1,z2,z3,z4⟩:=paired_zip hts2
 obtain⟨c2,tn2,hcl2,hcell2⟩:=T.at_ I2 hσ
 have ec:c2=c:=Option.some.inj (hcl2.symm.trans hcl)
 subst ec
 have isFr:∀b o,s2.heap.get? b=some o→(∀es ep,o.data≠.dict es ep)→b≠X.env.locals:=fun b o e nd z=>by
  obtain⟨o',es,ep,e',d,_⟩:=F.ns
  rw[z,e'] at e;cases e
  exact nd es ep d
 refine ksk_sortedSt (b:=false) (kz:=l.map fun st=>((st.getD n 0:Nat):Int)) (f:=.ref f) F N hl2.isList (by rw[List.length_map,List.length_map,z4]) (by rw[List.length_map,z4];exact Nat.le_of_lt (AC hlen))
  (ksk_s1 _ _) (fun b=>ksk_l1 _ _) (fun b=>ksk_t1 f b) ?turn ?over
 case turn=>
  intro j v kk hv hk h tk own F' N'
  obtain⟨t,htj,rfl⟩:∃t,ts[j]?=some t∧v=.ref t:=by
   rw[List.getElem?_map] at hv
   cases e:ts[j]? with
   | none=>rw[e] at hv;cases hv
   | some t=>rw[e] at hv;exact⟨t,rfl,(Option.some.inj hv).symm⟩
  obtain⟨st,hst,hat⟩:=AF hts2 htj
  have ek:kk=((st.getD n 0:Nat):Int):=by
   rw[List.getElem?_map,hst] at hk
   exact (Option.some.inj hk).symm
  subst ek
  have kept:∀b o,b≠X.env.locals→s2.heap.get? b=some o→h.get? b=some o:=fun b o hb e=>by
   cases q:X.base.get? b with
   |
    some u=>
    have:=I2.bk b u q
    rw[e] at this;cases this
    exact F'.keep b _ q
   | none=>exact (N' (b,o) (List.mem_append_left _ (mem_allNews hb q e))).1
  have hst2:st∈l:=List.mem_of_getElem? hst
  obtain⟨itt,rvt,pt,_⟩:=I2.tuple (SqT.of hat)
  obtain⟨tk2,hkt⟩:=key_at itt st rvt n (hsh st hst2).1
  have hlt:=rvt.length
  rw[List.length_map] at hlt
  have hx:=hsh st hst2
  refine Rv.lam_call (s:={s2 with heap:=h,toks:=tk}) (c:=c2) (n:=((n:Nat):Int)) (j:=n) (t:=tn2) T.txt ?room (I2.ok.mod.nolimit.keeps F'.keep) (kept _ _ (isFr _ _ hf (fun _ _ z=>nomatch z)) hf) ?rec (by simp) ?cell ?tup (by omega) (by omega) ?ix hkt ?go
  case room=>
   have:=hr.depth
   exact this
  case rec=>
   obtain⟨cc,o,ws,t3,e,g,d,r⟩:=hrec
   cases e
   exact⟨_,o,ws,t3,rfl,kept _ _ (isFr _ _ g (fun _ _ z=>by rw[d] at z;cases z)) g,d,r⟩
  case cell=>
   obtain⟨o,g,d⟩:=hcell2
   exact⟨o,kept _ _ (I2.cne y _ hcl2) g,d⟩
  case tup=>
   obtain⟨o,g,r⟩:=pt
   exact⟨o,kept _ _ (fun z=>by have e:=I2.free;rw[←z] at e;unfold AR at hat;rw[hat] at e;cases e) g,r⟩
  case ix=>
   rw[seqIndex_of (by omega) (by simp;omega)]
   simp
  case go=>
   intro h3 tk3 kp3
   exact⟨h3,tk3,tk2,rfl,rfl,F'.kept kp3,N'.grown kp3⟩
 case over=>
  intro D h3 tk3 out cc F3 N3 hD3 hout
  obtain⟨ps,p1,p2,p3,p4⟩:=hout
  have ezip:(l.map fun st=>((st.getD n 0:Nat):Int)).zip (ts.map Value.ref)=(ts.zip l).map (fun z=>(((z.2.getD n 0:Nat):Int),Value.ref z.1)):=by
   have e1:(l.map fun st=>((st.getD n 0:Nat):Int))=(ts.zip l).map (fun z=>((z.2.getD n 0:Nat):Int)):=by
    conv=>lhs;rw[←z2]
    rw[List.map_map];rfl
   have e2:ts.map Value.ref=(ts.zip l).map (fun z=>Value.ref z.1):=by
    conv=>lhs;rw[←z1]
    rw[List.map_map];rfl
   rw[e1,e2,List.zip_map']
  rw[ezip] at p1 p4
  obtain⟨ys,py,ey⟩:=perm_map _ p1 rfl
  have hys:∀z∈ys,AR H2 z.1 z.2:=fun z hz=>z3 z (py.mem_iff.mp hz)
  have eout:out.toList=(ys.map (·.1)).map Value.ref:=by rw[p2,ey,List.map_map,List.map_map];rfl
  have nD:=N3 (D,seqObj "list" out cc) (.head _)
  have hDn:s2.heap.get? D=none:=by
   cases q:s2.heap.get? D with
   | none=>rfl
   | some o=>exact absurd (hD3 _ (mem_allNews nD.2.1 nD.2.2 q)) (Nat.lt_irrefl _)
  have kept:∀b o,b≠X.env.locals→s2.heap.get? b=some o→h3.get? b=some o:=fun b o hb e=>by
   cases q:X.base.get? b with
   |
    some u=>
    have:=I2.bk b u q
    rw[e] at this;cases this
    exact F3.keep b _ q
   | none=>exact (N3 (b,o) (.tail _ (mem_allNews hb q e))).1
  have ns:∀m',s2.heap.Ns X.env.locals m'→h3.Ns X.env.locals m':=fun m' hm'=>by
   have em:m'=m:=by
    obtain⟨o,es,ep,e,d,_,g⟩:=hm'
    obtain⟨o2,es2,ep2,e2,d2,_,g2⟩:=F.ns
    rw[e] at e2;cases e2
    rw[d] at d2;cases d2
    funext nm
    rw[←g nm,←g2 nm]
   rw[em];exact F3.ns
  have hll:ys.length≤1000:=by
   rw[py.length_eq,List.length_zip,z4,Nat.min_self];exact hlen
  have I3:=I2.sorted (t':=tk3) (D:=D) (xs:=(ys.map (·.1)).map V.ref) (its:=(ys.map (·.1)).map Value.ref) (n:=cc) kept ns hDn (by rw[List.length_map,List.length_map];exact Nat.le_of_lt (AC hll)) (refs_vals _)
   (by rw[nD.1,←eout,Array.toArray_toList])
  have Dn:H2 D=none:=I2.untracked hDn
  refine⟨.ref D,_,I3,rfl,fin _ D (ys.map (·.2)) (A8.trans sT (A8.of (Ae.upd Dn))) (tb2.same (Ae.upd Dn)) ⟨?_,?_,?_⟩ ⟨ys.map (·.1),Ab,paired_of ys fun z hz=>?_⟩⟩
  ·
   have:=py.map (·.2)
   rw[z2] at this;exact this
  ·
   rw[ey] at p3
   rw[List.pairwise_map] at p3 ⊢
   exact p3.imp fun {a b} q=>by simpa using q
  ·
   intro cn
   have q:=p4 ((cn:Nat):Int)
   rw[ey,List.filter_map,List.filter_map] at q
   have q2:=map_inj_on _ (fun u hu v hv e=>?_) q
   ·
    have eb:((fun p:Int×Value=>p.1==((cn:Nat):Int))∘fun z:Addr×List Nat=>(((z.2.getD n 0:Nat):Int),Value.ref z.1))=((fun a:List Nat=>a.getD n 0==cn)∘fun z:Addr×List Nat=>z.2):=by
     funext z
     show ((((z.2.getD n 0:Nat):Int))==((cn:Nat):Int))=(z.2.getD n 0==cn)
     rw[Bool.eq_iff_iff]
     simp only[beq_iff_eq]
     omega
    rw[eb] at q2
    have e3:l=(ts.zip l).map (·.2):=z2.symm
    rw[List.filter_map,q2]
    conv=>rhs;rw[e3]
    rw[List.filter_map]
   ·
    have hu2:=hys u (List.mem_filter.mp hu).1
    have hv2:=z3 v (List.mem_filter.mp hv).1
    have e1:u.1=v.1:=Value.ref.inj (Prod.mk.inj e).2
    unfold AR at hu2 hv2
    rw[e1,hv2] at hu2
    have e2:v.2=u.2:=nV_inj (HO.tup.inj (Option.some.inj hu2))
    exact Prod.ext e1 e2.symm
  ·
   exact Ae.upd Dn _ _ (hys z hz)
end
end Wk
namespace Rv
open PySem PySem.Spec PyProof.Rows
section
variable {prog:Program}{w:World}{A:Around}{E:Value→Shared→Prop}{s:Shared}{tp:Addr}{xs:Array (Int×Tok)}
theorem iter_tup {Q:Value→Shared→Prop}(hl:s.heap.IsTuple tp (intItems xs))
  (h:∀s2:Shared,s2={s with heap:=s.heap.push {cls:=.type "tuple_iterator",data:=.fields #[.ref tp,.int 0 0]}}→
   (s2.heap.IsTupleIter s.heap.objs.size tp 0∧s2.heap.IsTuple tp (intItems xs))→(∀b∈[s.heap.objs.size,tp],b<s2.heap.objs.size)→tp≠s.heap.objs.size→Q (.ref s.heap.objs.size) s2):
  wpAny (model prog w) A (pyIter (.ref tp)) Q E s:=by
 have hlt:tp<s.heap.objs.size:=by obtain⟨_,e,_⟩:=hl;exact Heap.lt_size e
 refine wpAny_pyIter_tuple hl (h _ rfl ⟨⟨_,Heap.get?_push_size _ rfl,rfl,rfl⟩,hl.push _⟩ (fun b hb=>?_) (Nat.ne_of_lt hlt))
 have hz:(s.heap.push {cls:=.type "tuple_iterator",data:=.fields #[.ref tp,.int 0 0]}).objs.size=s.heap.objs.size+1:=Heap.size_push ..
 show b<(s.heap.push _).objs.size
 rw[hz]
 rcases (show b=s.heap.objs.size∨b=tp by simpa using hb) with e | e
 ·
  rw[e];exact Nat.lt_succ_self _
 ·
  rw[e];exact Nat.lt_succ_of_lt hlt
theorem kept_tup {h':Heap}(hk:∀b o,b∉[s.heap.objs.size]→(s.heap.push {cls:=.type "tuple_iterator",data:=.fields #[.ref tp,.int 0 0]}).get? b=some o→h'.get? b=some o):
  ∀b o,s.heap.get? b=some o→h'.get? b=some o:=fun b o e=>hk b o (fun hm=>by
   have z:b=s.heap.objs.size:=by simpa using hm
   exact absurd (Heap.lt_size e) (by rw[z];exact Nat.lt_irrefl _)) (Heap.get?_push_of_some _ e)
theorem max_tup0 {Q:Value→Shared→Prop}(hh:A.handled=none)(hl:s.heap.IsTuple tp (intItems xs))(hne:0<xs.size)
  (h:∀v h' tk,(intItems xs)[argBest (fun i j=>decide (numAt xs i>numAt xs j)) (xs.size-1)]?=some v→(∀b o,s.heap.get? b=some o→h'.get? b=some o)→Q v {s with heap:=h',toks:=tk}):
  wpAny (model prog w) A (call (.builtin "max") [.ref tp]) Q E s:=by
 refine call_max_walk (iter_tup hl fun s2 e st hfp hlI=>?_)
 subst e
 exact⟨_,_,_,_,_,_,_,rfl,Walks.tuple (A:=A.in1) hh _ tp hlI (intItems xs),st,hfp,by simpa [intItems] using hne,CmpOf.ints_gt (numAt xs) (fun _ _=>intItems_at),fun v h' tk hP hk=>h v h' tk (by simpa [intItems] using hP) (kept_tup hk)⟩
theorem sum_tup0 {Q:Value→Shared→Prop}(hh:A.handled=none)(hl:s.heap.IsTuple tp (intItems xs))
  (h:∀h' tk t',(∀b o,s.heap.get? b=some o→h'.get? b=some o)→Q (.int (preSum (numAt xs) xs.size) t') {s with heap:=h',toks:=tk}):
  wpAny (model prog w) A (call (.builtin "sum") [.ref tp]) Q E s:=by
 refine call_sum_walkG (iter_tup hl fun s2 e st hfp hlI=>?_)
 subst e
 refine⟨_,_,_,_,_,_,numAt xs,rfl,Walks.tuple (A:=A.in1) hh _ tp hlI (intItems xs),st,hfp,(fun _ _=>intItems_at),fun h' tk t' hk=>?_⟩
 have:=h h' tk t' (kept_tup hk)
 simpa [intItems] using this
end
section
variable {prog:Program}{w:World}{A:Around}{E:Value→Shared→Prop}{s:Shared}{tp:Addr}{its:List Value}{ns:List Int}
theorem sum_tup {Q:Value→Shared→Prop}(hh:A.handled=none)(hl:s.heap.IsTuple tp its.toArray)(hi:IntsAre its ns)
  (h:∀h' tk t',(∀b o,s.heap.get? b=some o→h'.get? b=some o)→Q (.int ns.sum t') {s with heap:=h',toks:=tk}):wpAny (model prog w) A (call (.builtin "sum") [.ref tp]) Q E s:=by
 obtain⟨xs,e⟩:=hi.allInts.items
 have hn:numsOf (intItems xs).toList=ns:=by rw[←e];exact hi.numsOf
 rw[nums_intItems] at hn
 rw[e] at hl
 refine sum_tup0 hh hl fun h' tk t' hk=>?_
 have q:=h h' tk t' hk
 rw[preSum_eq,List.take_of_length_le (by simp),hn];exact q
theorem max_tup {Q:Value→Shared→Prop}(hh:A.handled=none)(hl:s.heap.IsTuple tp its.toArray)(hi:IntsAre its ns)(hne:0<ns.length)
  (h:∀h' tk M t',(∀b o,s.heap.get? b=some o→h'.get? b=some o)→M∈ns→Q (.int M t') {s with heap:=h',toks:=tk}):wpAny (model prog w) A (call (.builtin "max") [.ref tp]) Q E s:=by
 obtain⟨xs,e⟩:=hi.allInts.items
 have hn:numsOf (intItems xs).toList=ns:=by rw[←e];exact hi.numsOf
 rw[nums_intItems] at hn
 subst hn
 rw[e] at hl
 have hsz:0<xs.size:=by simpa using hne
 refine max_tup0 hh hl hsz fun v h' tk hv hk=>?_
 obtain⟨t,rfl⟩:=intItems_at hv
 obtain⟨h1,h2⟩:=argBest_gt (numAt xs) (xs.size-1)
 refine h h' tk _ t hk ?_
 rw[numAt_eq];exact PySem.getD_mem (by rw[List.length_map,Array.length_toList];omega)
end
end Rv
namespace L2
open PySem PySem.Spec PyProof.Rows
section
variable {X:Cx}
def rSumT (K:PySem.W.Frag):List V→Hp→VK→Prop:=fun vs H Q=>∃(a:Addr) (ns:List Int),vs=[V.ref a]∧SqT K H a (ns.map V.int)∧Q (.int ns.sum) H
theorem cr_sumT (hc:X.calm=true):CallR X (.builtin "sum") (rSumT X.K):=by
 intro pins s σ H vs us Q I r h
 obtain⟨a,ns,rfl,hs,q⟩:=h
 obtain⟨its,rv,hl,_⟩:=I.tuple hs
 rw[AG.ref1 r]
 exact Rv.sum_tup (I.ok.hd hc) (isTuple_of hl) rv.ints fun h' tk t' hk=>⟨.int _,H,I.kept hk,⟨_,rfl⟩,q⟩
def rMaxT (K:PySem.W.Frag):List V→Hp→VK→Prop:=fun vs H Q=>∃(a:Addr) (ns:List Int),vs=[V.ref a]∧SqT K H a (ns.map V.int)∧0<ns.length∧∀m,m∈ns→Q (.int m) H
theorem cr_maxT (hc:X.calm=true):CallR X (.builtin "max") (rMaxT X.K):=by
 intro pins s σ H vs us Q I r h
 obtain⟨a,ns,rfl,hs,hne,q⟩:=h
 obtain⟨its,rv,hl,_⟩:=I.tuple hs
 rw[AG.ref1 r]
 exact Rv.max_tup (I.ok.hd hc) (isTuple_of hl) rv.ints hne fun h' tk m t' hk h1=>⟨.int _,H,I.kept hk,⟨_,rfl⟩,q m h1⟩
end
end L2
namespace Rv
open PySem PySem.Spec PyProof.Rows
section
variable {prog:Program}{w:World}{A:Around}{E:Value→Shared→Prop}{s:Shared}{tp:Addr}{its:List Value}{ns:List Int}
theorem ints_at {its:List Value}{ns:List Int}(hi:IntsAre its ns):∀j,j<ns.length→∃t,its[j]?=some (.int (ns.getD j 0) t):=by
 induction hi with
 | nil=>intro j hj;simp at hj
 |
  cons n t h ih=>
  intro j hj
  cases j with
  | zero=>exact⟨t,rfl⟩
  |
   succ j=>
   obtain⟨u,hu⟩:=ih j (by simpa using hj)
   exact⟨u,by simpa using hu⟩
theorem index_tup {k:Int}{t:Tok}{Q:Value→Shared→Prop}(hl:s.heap.IsTuple tp its.toArray)(hi:IntsAre its ns)(hk:k∈ns)(h:∀(j:Nat) (tk:Tok) (tn:Nat),j<ns.length→Q (.int j tk) {s with toks:=tn}):
  wpAny (model prog w) A (call (.builtin "tuple.index") [.ref tp,.int k t]) Q E s:=by
 have hT:s.TypeIs (.ref tp) "tuple":=hl.typeIs
 refine wpAny_call_entry F.slot_tuple_index hT F.entry_tuple_index ?_ (F.args_tuple_index_2 _ _)
 have hlen:=hi.length
 obtain⟨o,ho,_,n,hd⟩:=hl
 refine wpAny_bind (m:=Builtin.Tuple.tupleItemsOf (.ref tp)) (wpAny_tupleItemsOf ho hd ?_)
 refine wpAny_bind (m:=pure 0) (wpAny_pure (wpAny_bind (m:=pure its.toArray.size) (wpAny_pure ?_)))
 refine wpAny_bind ?_
 rw[Std.Legacy.Range.forIn_eq_forIn_range']
 refine wpAny_forIn_list _ (fun rest r s'=>r.1=none∧s'=s∧∃i,rest=List.range' i (ns.length-i)∧i≤ns.length∧∀j,j<i→ns.getD j 0≠k) _ ?_ ?_ _ _ ?_
 ·
  rintro i rest r s' ⟨hr,rfl,i0,hrest,hle,hno⟩
  have hlt:i0<ns.length:=by
   apply Classical.byContradiction
   intro z
   rw[show ns.length-i0=0 by omega] at hrest
   simp at hrest
  obtain⟨d,hd2⟩:∃d,ns.length-i0=d+1:=⟨ns.length-i0-1,by omega⟩
  rw[hd2,List.range'_succ] at hrest
  obtain⟨e1,e2⟩:=List.cons.inj hrest
  subst e1
  obtain⟨u,hu⟩:=ints_at hi i hlt
  have hu2:its.toArray[i]?=some (.int (ns.getD i 0) u):=by simpa using hu
  rw[hu2]
  refine wpAny_bind (wpAny_eqBool_int ?_)
  by_cases e:ns.getD i 0=k
  ·
   rw[if_pos (by simpa using e)]
   refine wpAny_bind ?_
   unfold retInt
   refine wpAny_bind (wpAny_mkInt (wpAny_pure (wpAny_pure (wpAny_pure ?_))))
   exact⟨_,rfl,h i _ _ hlt⟩
  ·
   rw[if_neg (by simpa using e)]
   refine wpAny_pure ⟨rfl,rfl,i+1,?_,by omega,fun j hj=>?_⟩
   ·
    rw[e2,show ns.length-(i+1)=d by omega]
   ·
    by_cases z:j=i
    ·
     rw[z];exact e
    ·
     exact hno j (by omega)
 ·
  rintro r s' ⟨hr,rfl,i,hrest,hle,hno⟩
  exfalso
  have hz:ns.length-i=0:=by
   have:=congrArg List.length hrest
   simp at this;omega
  obtain⟨j,hj,e⟩:=List.mem_iff_getElem.mp hk
  refine hno j (by omega) ?_
  rw[List.getD_eq_getElem?_getD,List.getElem?_eq_getElem hj];exact e
 ·
  refine⟨rfl,rfl,0,?_,Nat.zero_le _,fun j hj=>by omega⟩
  simp[Std.Legacy.Range.size,hlen]
end
end Rv
namespace L2
open PySem PySem.Spec PyProof.Rows
section
variable {X:Cx}
def rIndexT (K:PySem.W.Frag):V→List V→Hp→VK→Prop:=fun x xs H Q=>∃(a:Addr) (ns:List Int) (k:Int),x=V.ref a∧xs=[V.int k]∧SqT K H a (ns.map V.int)∧k∈ns∧∀j:Nat,j<ns.length→Q (.int (j:Nat)) H
theorem mt_indexT:MtR X "tuple.index" (rIndexT X.K):=by
 intro pins s σ H x xs v us Q I rx rxs h
 obtain⟨a,ns,k,rfl,rfl,hs,hk,q⟩:=h
 cases rx
 obtain⟨u,rfl,ru⟩:=AG.one rxs
 obtain⟨t,rfl⟩:=ru
 obtain⟨its,rv,hl,_⟩:=I.tuple hs
 exact Rv.index_tup (isTuple_of hl) rv.ints hk fun j tk tn hj=>⟨.int (j:Nat),H,I.tok tn,⟨tk,rfl⟩,q j hj⟩
end
end L2
namespace L2
open PySem PySem.Spec PyProof.Rows
section
variable {P:Program}{w:World}{K:PySem.W.Frag}{mg:Str→Option Value}{base:Heap}
theorem Fun.okC {x qual:Str}{st:Stmt}{f:Addr}{fd:FuncData}{N ps:List Str}{k:Nat}{sp:Sp}(F:Fun K x qual st f fd)(S:Aq N ps (Ag st))(len:∀vs H Q E,sp vs H Q E→vs.length=ps.length)
  (hbody:∀(cdv:Value),fd.code=cdv→∀(A:Around) (outer:List Env) (s:Shared) (H:Hp) (vs:List V) (Q:VK) (E:XK),AM k (A.deeper (envOfC qual (Ag st) s.heap.objs.size f cdv))→sp vs H Q E→
   ∃t,PSs (cxOf CX0 P w K mg base N qual (Ag st) f cdv A outer s H E).nox (defBody st) t∧t {nx:=fun _ H'=>Q .non H',rt:=Q} (start N vs) H):Ah P w K mg base CX0 (k+1) f fd ps sp:=by
 obtain⟨oc,od,kV,doc,pm,an,cdv,ct,osl,rfl,lk,hcd⟩:=F.ex
 refine fn_of lk hcd S len fun A outer s H vs Q E hr hsp=>?_
 obtain⟨t,h,q⟩:=hbody cdv rfl A outer s H vs Q E hr hsp
 exact⟨t,h.nox,q⟩
end
end L2
namespace Wk
open PySem PySem.Spec PyProof.Rows L2 Rb
def lamPosOf (s:Stmt):Pos:=match defBody s with
 | [_,.Return (some (.Call _ _ [⟨_,.Lambda _ _ _ p,_⟩] _)) _]=>p
 | _=>⟨0,0,0,0⟩
def lPos:Pos:=lamPosOf sOrdF
def lQual:Str:=(("ordered_fillings":Str)++(".<locals>.":Str))++("<lambda>":Str)
theorem first_at (r:List Nat)(m:Nat)(h:m∈r):∃j,j<r.length∧(r.map nV)[j]?=some (nV m)∧∀(i:Nat) (z:V),i<j→(r.map nV)[i]?=some z→eqV z (nV m)=false:=by
 have hl:=List.idxOf_lt_length_of_mem h
 refine⟨r.idxOf m,hl,?_,fun i z hi hz=>?_⟩
 ·
  rw[List.getElem?_map,List.getElem?_eq_getElem hl,List.getElem_idxOf hl];rfl
 ·
  rw[List.getElem?_map] at hz
  cases e:r[i]? with
  | none=>rw[e] at hz;cases hz
  |
   some y=>
   rw[e] at hz
   have ez:=(Option.some.inj hz).symm
   subst ez
   have ne:y≠m:=by
    intro q
    have h2:=List.not_of_lt_findIdx (p:=(· ==m)) (xs:=r) (i:=i) hi
    obtain⟨hi2,e2⟩:=List.getElem?_eq_some_iff.mp e
    simp[e2,q] at h2
   show (((y:Nat):Int)==((m:Nat):Int))=false
   rw[beq_eq_false_iff_ne]
   omega
section
variable {P:Program}{w:World}{K:PySem.W.Frag}{mg:Str→Option Value}{base:Heap}
def WayAt (K:PySem.W.Frag)(H:Hp)(wa:Addr)(r:List Nat):Prop:=SqL K H wa (r.map nV)∨AR H wa r
theorem WayAt.sq {K:PySem.W.Frag}{H:Hp}{wa:Addr}{r:List Nat}(h:WayAt K H wa r):SqA K H wa (r.map nV):=h.elim .inl fun q=>.inr (SqT.of q)
theorem WayAt.same {K:PySem.W.Frag}{H H':Hp}{wa:Addr}{r:List Nat}(s:Ae H H')(h:WayAt K H wa r):WayAt K H' wa r:=h.elim (fun q=>.inl (Ae.seq s q)) fun q=>.inr (s _ _ q)
def spOrdF (K:PySem.W.Frag)(tb:Addr):Sp:=fun vs H Q _=>∃(wa:Addr) (r:List Nat),vs=[.ref wa]∧WayAt K H wa r∧(Su111.states r).length≤27∧1≤r.length∧r.length≤4∧Tab tb lPos lQual H∧
 ∀(H':Hp) (l:Addr) (n:Nat) (T:List (List Nat)),n<r.length→A8 tb H H'→Tab tb lPos lQual H'→ByKey n (Su111.states r) T→LstAt AR H' l T→Q (.ref l) H'
theorem scOrdF:Aq ["way","largest"] ["way"] (Ag sOrdF):=⟨rfl,rfl,rfl,by decide +kernel,rfl,by decide +kernel,by decide +kernel⟩
theorem ints_nV (r:List Nat):(r.map fun n=>((n:Nat):Int)).map V.int=r.map nV:=by rw[List.map_map];rfl
theorem ok_ordF {f fA c0 tb:Addr}{fd fdA:FuncData}(F:Fun K "ordered_fillings" "ordered_fillings" sOrdF f fd)(hfc:fd.code=.ref c0)(hhd:PySem.W.codeHdIn K c0 tb=true)(hB:base.BuiltinsAt mg tb)
  (FA:Fun K "all_fillings" "all_fillings" sAllF fA fdA)(bA:An K fdA ["way"] [])(mgA:mg "all_fillings"=some (.ref fA))(mgR:mg "range"=none)(mgM:mg "max"=none)(mgS:mg "sorted"=none):
  Ah P w K mg base CX0 3 f fd ["way"] (spOrdF K tb):=by
 have GA:Ah P w K mg base CX0 1 fA fdA ["way"] (spAllF K):=ok_allF FA mgR
 refine F.okC scOrdF (fun vs H Q E h=>?_) (fun cdv hcdv A outer s H vs Q E hr h=>?_)
 ·
  obtain⟨wa,r,rfl,_⟩:=h
  rfl
 ·
  obtain⟨wa,r,rfl,hw,h27,h1,h4,tbl,k⟩:=h
  have ecd:cdv=.ref c0:=hcdv.symm.trans hfc
  subst ecd
  have hr1:AM 1 _:=hr.mono (by decide)
  have rest:∀(n:Nat),n<r.length→∀(Q1:VK),(∀(H':Hp) (l:Addr) (T:List (List Nat)),A8 tb H H'→Tab tb lPos lQual H'→ByKey n (Su111.states r) T→LstAt AR H' l T→Q1 (.ref l) H')→
    tSortLam K tb lPos lQual 1 (tCons (tCall (spAllF K) [] E0 (tCons (tVar 0) tNil)) tNil) [some (.ref wa),some (nV n)] H Q1:=by
   intro n hn Q1 hQ
   refine⟨_,rfl,wa,r,rfl,hw.sq,h27,h4,fun H1 l1 s1 hl1=>?_⟩
   obtain⟨ts,a1,a2⟩:=hl1
   refine⟨l1,ts,Su111.states r,n,rfl,SqL.of a1,a2,fun st hst=>?_,by omega,rfl,tbl.same s1,fun H2 D l' sT tb2 bk at2=>hQ H2 D l' (A8.trans (A8.of s1) sT) tb2 bk at2⟩
   have:=states_mem_len r st hst
   omega
  rcases hw with hwl | hwt
  ·
   refine⟨_,Ad (As (i:=1) scOrdF.nd rfl (Or.inr rfl) (pe_bm PySem.F.plainAttrs_list PySem.F.slot_list_index PySem.F.type_list_index mt_index (pv 0) (Aa (Az (cr_max rfl) rfl mgM (by decide +kernel) (Aa (pv 0) Ac)) Ac)))
    (Af (Al (pe_sortLam (lpos:=lPos) (lq:=lQual) (i:=1) (k:=0) rfl hr rfl mgS
     ⟨⟨rfl,rfl,rfl,by decide +kernel,rfl,rfl,by decide,by decide,by decide,fun _ _ _ _ _ _ _=>rfl⟩,rfl,rfl,rfl,rfl,hhd,hB,rfl,rfl⟩
     (Aa (Aw GA hr1 rfl mgA FA.kp bA .nil Ap (Aa (pv 0) Ac)) Ac)))),?_⟩
   refine⟨_,rfl,.inl ⟨rfl,_,hwl⟩,_,rfl,wa,r.map fun n=>((n:Nat):Int),rfl,by rw[ints_nV];exact hwl,by rw[List.length_map];omega,fun m hm _=>?_⟩
   obtain⟨m0,hm0,rfl⟩:=List.mem_map.mp hm
   obtain⟨j,hj,hj1,hj2⟩:=first_at r m0 hm0
   refine⟨wa,r.map nV,nV m0,j,nV m0,rfl,rfl,hwl,rfl,by simp[nV,flatV],hj1,by simp[nV,eqV],hj2,?_⟩
   exact rest j hj _ (fun H' l T a b c d=>k H' l j T hj a b c d)
  ·
   refine⟨_,Ad (As (i:=1) scOrdF.nd rfl (Or.inr rfl) (pe_bm PySem.F.plainAttrs_tuple PySem.F.slot_tuple_index PySem.F.type_tuple_index mt_indexT (pv 0) (Aa (Az (cr_maxT rfl) rfl mgM (by decide +kernel) (Aa (pv 0) Ac)) Ac)))
    (Af (Al (pe_sortLam (lpos:=lPos) (lq:=lQual) (i:=1) (k:=0) rfl hr rfl mgS
     ⟨⟨rfl,rfl,rfl,by decide +kernel,rfl,rfl,by decide,by decide,by decide,fun _ _ _ _ _ _ _=>rfl⟩,rfl,rfl,rfl,rfl,hhd,hB,rfl,rfl⟩
     (Aa (Aw GA hr1 rfl mgA FA.kp bA .nil Ap (Aa (pv 0) Ac)) Ac)))),?_⟩
   refine⟨_,rfl,.inr (.inl ⟨rfl,.inr ⟨_,hwt⟩⟩),_,rfl,wa,r.map fun n=>((n:Nat):Int),rfl,by rw[ints_nV];exact SqT.of hwt,by rw[List.length_map];omega,fun m hm=>?_⟩
   refine⟨wa,r.map fun n=>((n:Nat):Int),m,rfl,rfl,by rw[ints_nV];exact SqT.of hwt,hm,fun j hj=>?_⟩
   rw[List.length_map] at hj
   exact rest j hj _ (fun H' l T a b c d=>k H' l j T hj a b c d)
end
end Wk
namespace L2
open PySem PySem.Spec PyProof.Rows
section
variable {prog:Program}{w:World}{A:Around}{E:Value→Shared→Prop}
abbrev TK (prog:Program)(w:World):=tupleKind (mixKind prog w)
theorem key_stay {h h':Heap}{ks:List Key}{a:Addr}(x:(TK prog w).is h ks a)(k:∀o,h.get? a=some o→h'.get? a=some o):(TK prog w).is h' ks a:=by
 obtain⟨o,its,n,ho,r⟩:=x
 exact⟨o,its,n,k _ ho,r⟩
theorem dictH_stay {h h':Heap}{S:Addr}{acc:List (List Key×Addr×Value)}(x:h.DictOfH (TK prog w) S acc)(k:∀o,h.get? S=some o→h'.get? S=some o)
  (kk:∀q∈acc,∀o,h.get? q.2.1=some o→h'.get? q.2.1=some o):h'.DictOfH (TK prog w) S acc:=by
 obtain⟨o,es,ep,h1,h2,h3,h4,h5,h6⟩:=x
 exact⟨o,es,ep,k _ h1,h2,h3,h4,fun q hq=>key_stay (h5 q hq) (kk q hq),h6⟩
theorem atKey_fresh {acc:List (List Key×Addr×Value)}{k:List Key}(h:k∉acc.map (·.1)):atKey acc k=none:=by
 unfold atKey
 rw[Option.map_eq_none_iff,List.find?_eq_none]
 intro q hq z
 exact h (List.mem_map.mpr ⟨q,hq,of_decide_eq_true z⟩)
theorem upd_loopT {R:Result→Shared→Prop}{S I l:Addr}{items:Array Value}{res:Value}(hh:A.handled=none)(hu:A.units+1<cLine)(hlI:l≠I)(hSI:S≠I)(hSl:S≠l):
  ∀(rest:List (List Key×Addr×Value)) (i:Nat) (acc:List (List Key×Addr×Value)) (ix:Int) (t:Tok) (s:Shared),items.size=i+rest.length→acc.length+rest.length≤sizeLine→((acc++rest).map (·.1)).Nodup→
   (∀q∈acc,q.2.1≠I∧q.2.1≠S)→
   (∀(j:Nat) (q:List Key×Addr×Value),rest[j]?=some q→∃(b:Addr),items[i+j]?=some (.ref b)∧b≠S∧b≠I∧IsTup s.heap b #[.ref q.2.1,q.2.2]∧(TK prog w).is s.heap q.1 q.2.1∧q.2.1≠I∧q.2.1≠S)→
   s.heap.IsListIter I l i→s.heap.IsList l items→s.heap.DictOfH (TK prog w) S acc→
   (∀h' tk,h'.DictOfH (TK prog w) S (acc++rest)→(∀b o,b≠S→b≠I→s.heap.get? b=some o→h'.get? b=some o)→R (.ok (.ret res)) {s with heap:=h',toks:=tk})→
   codeAny (model prog w) A (.builtin "dict.update.loop" ⟨[.ref S,.ref I,.int ix t,res],[]⟩) R s
 |
  [],i,acc,ix,t,s,hsz,hln,nd,ha,ht,hit,hl,hm,hR=>by
  refine codeAny_builtin ud_entry ?_
  rw[Around.under_plainId ud_plain _]
  refine wpAny_bind (m:=pyNext (.ref I)) (wpAny_pyNext_list_end (A:=A.in1) hh hit hl (by simp at hsz;simp;omega) fun h' he=>?_)
  refine wpAny_bind (m:=Builtin.Dict.addKeywords S []) (wpAny_pure (wpAny_pure ?_))
  rw[List.append_nil] at hR
  exact hR h' s.toks (dictH_stay hm (fun o e=>he S o hSI e) fun q hq o e=>he _ o (ha q hq).1 e) fun b o _ hb e=>he b o hb e
 |
  q::rest,i,acc,ix,t,s,hsz,hln,nd,ha,ht,hit,hl,hm,hR=>by
  obtain⟨b,hb,hbS,hbI,htup,hkey,hkI,hkS⟩:=ht 0 q rfl
  rw[List.length_cons] at hsz hln
  refine codeAny_builtin ud_entry ?_
  rw[Around.under_plainId ud_plain _]
  refine wpAny_bind (m:=pyNext (.ref I)) (wpAny_pyNext_list_item (x:=.ref b) hit hl (by simpa using hb) fun h1 hit1 hs1=>?_)
  have ht1:IsTup h1 b #[.ref q.2.1,q.2.2]:=htup.extBut hs1.extBut hbI
  have hl1:h1.IsList l items:=hl.extBut hs1.extBut hlI
  have k1:∀c o,c≠I→s.heap.get? c=some o→h1.get? c=some o:=fun c o hc e=>hs1.extBut c o hc e
  have hm1:h1.DictOfH (TK prog w) S acc:=dictH_stay hm (fun o e=>k1 S o hSI e) fun q hq o e=>k1 _ o (ha q hq).1 e
  have hkey1:(TK prog w).is h1 q.1 q.2.1:=key_stay hkey fun o e=>k1 _ o hkI e
  obtain⟨o,ho,hc,n,hd⟩:=id ht1
  refine wpAny_bind (m:=holding [Value.ref b] _) (wpAny_holding (wpAny_bind (wpAny_tryCatch ?_)))
  unfold Builtin.Dict.pairItems
  refine wpAny_bind (wpAny_typeOf (T:="tuple") ⟨o,ho,hc⟩ ?_)
  rw[if_pos (by first | decide | rfl | simp)]
  refine wpAny_bind (wpAny_seqItems ho hd (wpAny_pure ?_))
  have nk:q.1∉acc.map (·.1):=fun z=>by
   rw[List.map_append,List.map_cons] at nd
   exact (List.nodup_append.mp nd).2.2 _ z _ (.head _) rfl
  refine wpAny_holding (wpAny_dictSet_heap (k:=q.1) (a:=q.2.1) ?room hkey1 hm1 (fun h2 hm2 hs2=>?_) ?size)
  case room=>exact Nat.lt_of_le_of_lt (Nat.le_refl _) hu
  case size=>omega
  rw[storedH_new (atKey_fresh nk)] at hm2
  refine wpAny_pure ⟨plainId_quiet ud_plain _,upd_loopT (items:=items) hh hu hlI hSI hSl rest (i+1) (acc++[(q.1,q.2.1,q.2.2)]) (ix+1) 0 _ (show items.size=i+1+rest.length by omega) ?_ ?_ ?_ (fun j q' e=>?_) ?_ ?_ hm2 fun h' tk hd' k=>?_⟩
  ·
   rw[List.length_append];show acc.length+1+rest.length≤sizeLine;omega
  ·
   rw[List.append_assoc];exact nd
  ·
   intro p hp
   rcases List.mem_append.mp hp with z | z
   ·
    exact ha p z
   ·
    rw[List.mem_singleton.mp z];exact⟨hkI,hkS⟩
  ·
   obtain⟨b',hb',hbS',hbI',htup',hk',n1,n2⟩:=ht (j+1) q' (by simpa using e)
   refine⟨b',?_,hbS',hbI',(htup'.extBut hs1.extBut hbI').extBut hs2.extBut hbS',key_stay hk' fun o e=>hs2.extBut _ o n2 (k1 _ o n1 e),n1,n2⟩
   rw[show i+1+j=i+(j+1) by omega]
   exact hb'
  ·
   exact hit1.at fun o' e=>hs2.extBut I o' (Ne.symm hSI) e
  ·
   exact hl1.extBut hs2.extBut (Ne.symm hSl)
  ·
   refine hR h' tk ?_ fun c oc h3 h4 e=>k c oc h3 h4 (hs2.extBut c oc h3 (k1 c oc h4 e))
   rw[List.append_assoc] at hd';exact hd'
theorem dict_pairsT {s:Shared}{l:Addr}{ol:Obj}{items:Array Value}{n:Nat}{prs:List (List Key×Addr×Value)}{Q:Value→Shared→Prop}(hh:A.handled=none)(hu:A.units+2<cLine)(hl:s.heap.get? l=some ol)(hc:ol.cls=.type "list")(hd:ol.dict=none)
  (hdat:ol.data=.seq items n)(hsz:items.size=prs.length)(hln:prs.length≤sizeLine)(nd:(prs.map (·.1)).Nodup)
  (ht:∀(j:Nat) (q:List Key×Addr×Value),prs[j]?=some q→∃(b:Addr),items[j]?=some (.ref b)∧IsTup s.heap b #[.ref q.2.1,q.2.2]∧(TK prog w).is s.heap q.1 q.2.1)
  (h:∀h' tk,h'.DictOfH (TK prog w) s.heap.objs.size prs→(∀b o,s.heap.get? b=some o→h'.get? b=some o)→Q (.ref s.heap.objs.size) {s with heap:=h',toks:=tk}):
  wpAny (model prog w) A (call (.type "dict") [.ref l]) Q E s:=by
 refine callType_codes (Q₁:=fun obj s1=>obj=.ref s.heap.objs.size∧s1={s with heap:=s.heap.push {cls:=.type "dict",data:=.dict #[]}}) PySem.F.kt_called_dict (PySem.F.kt_typeCall_dict_1 _) PySem.F.entry_dict_init (kt_code_dict_new _ ⟨rfl,rfl⟩) ?_
 rintro obj s1 ⟨rfl,rfl⟩
 have hnew:(s.heap.push {cls:=.type "dict",data:=.dict #[]}).DictOfH (TK prog w) s.heap.objs.size []:=Heap.DictOfH.new s.heap
 have k0:∀b o,s.heap.get? b=some o→(s.heap.push {cls:=.type "dict",data:=.dict #[]}).get? b=some o:=fun b o e=>Heap.get?_push_of_some _ e
 have hT:(⟨s.heap.push {cls:=.type "dict",data:=.dict #[]},s.gens,s.drawn,s.toks,s.os⟩:Shared).TypeIs (.ref s.heap.objs.size) "dict":=⟨_,Heap.get?_push_size _ rfl,rfl⟩
 refine⟨hT,PySem.F.args_dict_init_2 _ _,?_⟩
 unfold Builtin.«dict.__init__»
 refine wpAny_bind ?_
 unfold Builtin.Dict.selfAndRest
 refine wpAny_bind (wpAny_notOrdered_dict hT (wpAny_pure ?_))
 show wpAny _ _ (Builtin.Dict.updateFrom "dict.__init__" s.heap.objs.size (.ref l) [] .none) _ _ _
 unfold Builtin.Dict.updateFrom
 refine wpAny_bind (wpAny_typeOf (T:="list") ⟨ol,k0 _ _ hl,hc⟩ ?_)
 rw[if_pos (by first | decide | rfl | simp)]
 refine wpAny_bind (miss_list (k0 _ _ hl) hc hdat hd hh fun h1 tk1 hk1=>?_)
 rw[if_pos (show (none:Option Value).isNone=true from rfl)]
 refine wpAny_bind (wpAny_rule ?_)
 have hl1:h1.IsList l items:=⟨ol,hk1 _ _ (k0 _ _ hl),hc,n,hdat⟩
 have hS1:s.heap.objs.size<h1.objs.size:=Heap.lt_size (hk1 _ _ (Heap.get?_push_size s.heap (o:={cls:=.type "dict",data:=.dict #[]}) rfl))
 refine wpAny_bind (wpAny_pyIter_list hl1 ?_)
 have k2:∀b o,h1.get? b=some o→(h1.push {cls:=.type "list_iterator",data:=.fields #[.ref l,.int 0 0]}).get? b=some o:=fun b o e=>Heap.get?_push_of_some _ e
 have hlt:l<s.heap.objs.size:=Heap.lt_size hl
 have kk:∀b o,s.heap.get? b=some o→(h1.push {cls:=.type "list_iterator",data:=.fields #[.ref l,.int 0 0]}).get? b=some o:=fun b o e=>k2 _ _ (hk1 _ _ (k0 _ _ e))
 have loop:=upd_loopT (prog:=prog) (w:=w) (A:=A.in1) (R:=wants (fun r s2=>r=.none∧Q (.ref s.heap.objs.size) s2) E) (S:=s.heap.objs.size) (I:=h1.objs.size) (l:=l) (items:=items) (res:=Value.none) hh hu
  (Nat.ne_of_lt (Nat.lt_trans hlt hS1)) (Nat.ne_of_lt hS1) (Nat.ne_of_gt hlt) prs 0 [] 0 0
  {s with heap:=h1.push {cls:=.type "list_iterator",data:=.fields #[.ref l,.int 0 0]},toks:=tk1} (by rw[hsz,Nat.zero_add]) (by rw[List.length_nil,Nat.zero_add];exact hln) nd (fun q hq=>nomatch hq)
  (fun j q e=>by
   obtain⟨b,e1,e2,e3⟩:=ht j q e
   have hb:b<s.heap.objs.size:=e2.lt
   have hk:q.2.1<s.heap.objs.size:=by obtain⟨o,_,_,z,_⟩:=e3;exact Heap.lt_size z
   exact⟨b,by rw[Nat.zero_add];exact e1,Nat.ne_of_lt hb,Nat.ne_of_lt (Nat.lt_trans hb hS1),e2.keeps fun c o z=>kk _ _ z,key_stay e3 fun o z=>kk _ _ z,Nat.ne_of_lt (Nat.lt_trans hk hS1),Nat.ne_of_lt hk⟩)
  ⟨_,Heap.get?_push_size _ rfl,rfl,rfl⟩ (hl1.at fun o e=>k2 _ _ e) (dictH_stay hnew (fun o e=>k2 _ _ (hk1 _ _ e)) fun q hq=>nomatch hq)
  (fun h' tk hd' k=>⟨rfl,h h' tk hd' fun b o e=>k b o (Nat.ne_of_lt (Heap.lt_size e)) (Nat.ne_of_lt (Nat.lt_trans (Heap.lt_size e) hS1)) (kk _ _ e)⟩)
 first
  | exact wpAny_pure ⟨plainId_quiet ud_plain _,loop⟩
  | exact wpAny_bind (wpAny_pure (wpAny_pure ⟨plainId_quiet ud_plain _,loop⟩))
end
section
variable {X:Cx}
def PairT (H:Hp)(p:Addr)(q:List Key×Addr×V):Prop:=H p=some (.tup [.ref q.2.1,q.2.2])∧H q.2.1=some (.tup (q.1.map kV))
theorem pairs_ofT {pins:List (Addr×Obj)}{σ:St}{H:Hp}{s:Shared}(I:Inv X pins σ H s):∀{ps:List Addr} {kvs:List (List Key×Addr×V)},Paired (PairT H) ps kvs→
  ∃prs:List (List Key×Addr×Value),Paired (fun (p:List Key×V) (q:List Key×Addr×Value)=>p.1=q.1∧H q.2.1=some (.tup (p.1.map kV))∧AW p.2 q.2.2) (kvs.map fun q=>(q.1,q.2.2)) prs∧prs.map (·.1)=kvs.map (·.1)∧prs.length=ps.length∧
   ∀(j:Nat) (q:List Key×Addr×Value),prs[j]?=some q→∃(b:Addr),ps[j]?=some b∧IsTup s.heap b #[.ref q.2.1,q.2.2]∧(TK X.prog X.w).is s.heap q.1 q.2.1
 | _,_,.nil=>⟨[],.nil,rfl,rfl,fun j q e=>by simp at e⟩
 |
  _,_,.cons (a:=p) (b:=kv) h t=>by
  obtain⟨prs,r,hk,hl,hp⟩:=pairs_ofT I t
  obtain⟨its,rv,ht,_⟩:=I.tuple (SqT.of h.1)
  obtain⟨u,y,ei,ru,ry⟩:=vals2 rv
  subst ei
  cases (show u=Value.ref kv.2.1 from ru)
  refine⟨(kv.1,kv.2.1,y)::prs,.cons ⟨rfl,h.2,ry⟩ r,by rw[List.map_cons,List.map_cons,hk],by rw[List.length_cons,List.length_cons,hl],fun j q e=>?_⟩
  cases j with
  |
   zero=>
   have e':(kv.1,kv.2.1,y)=q:=Option.some.inj e
   subst e'
   exact⟨p,rfl,ht,key_of I.hok h.2⟩
  |
   succ j=>
   obtain⟨b,e1,e2,e3⟩:=hp j q (by simpa using e)
   exact⟨b,by simpa using e1,e2,e3⟩
theorem call_dictT (hcalm:X.calm=true)(hu:X.A.units+2<cLine):CallR X (.type "dict") (fun xs H Q=>∃(a:Addr) (ps:List Addr) (kvs:List (List Key×Addr×V)),xs=[.ref a]∧SqL X.K H a (ps.map V.ref)∧Paired (PairT H) ps kvs∧(kvs.map (·.1)).Nodup∧
  ∀p,H p=none→Q (.ref p) (upd H p (.dT (kvs.map fun q=>(q.1,q.2.2))))):=by
 intro pins s σ H xs us Q I r q
 obtain⟨a,ps,kvs,ex,hq,hp,nd,q⟩:=q
 subst ex
 obtain⟨u,eu,rx⟩:=vals1 r
 subst eu
 cases rx
 obtain⟨its,rv,pl,hz⟩:=I.list hq
 have ei:=refs_at rv
 subst ei
 rw[List.length_map] at hz
 obtain⟨prs,rel,hk,hl,hpr⟩:=pairs_ofT I hp
 obtain⟨o,n,ho,hc,hd,hdat⟩:=pl
 refine dict_pairsT (prs:=prs) (I.ok.hd hcalm) hu ho hc hd hdat (by simp[hl]) (by rw[hl];exact hz) (by rw[hk];exact nd) (fun j q' e=>?_) fun h' tk hd' k=>?_
 ·
  obtain⟨b,e1,e2,e3⟩:=hpr j q' e
  exact⟨b,by simp[e1],e2,e3⟩
 ·
  have hm:(s.heap.objs.size==sysModules)=false:=beq_eq_false_iff_ne.mpr (Nat.ne_of_gt I.big)
  have hlen:(kvs.map fun q=>(q.1,q.2.2)).length≤sizeLine:=by rw[Paired.length rel,hl];exact hz
  have hfr:H s.heap.objs.size=none:=I.hok.fresh (Nat.le_refl _)
  obtain⟨od,es,ep,h1,h2,h3,h4,_,h6⟩:=hd'
  refine⟨.ref s.heap.objs.size,upd H s.heap.objs.size (.dT (kvs.map fun q=>(q.1,q.2.2))),I.laid (t':=tk) k (Nat.le_refl _) (show ObjOk X.prog X.w _ _ _ (.dT _) from ⟨hlen,hm,prs,Paired.mapP rel fun p q z=>⟨z.1,?_,z.2.2⟩,od,es,ep,h1,h2,h3,h4,h6⟩),rfl,q _ hfr⟩
  rw[Ai (Aj z.2.1 hfr)];exact z.2.1
end
end L2
namespace Rb
open Su111
def rowL (n:Nat)(f:Nat→Int):List Int:=(List.range n).map f
theorem rowL_len (n:Nat)(f:Nat→Int):(rowL n f).length=n:=by simp[rowL]
theorem rowL_at {n i:Nat}(f:Nat→Int)(h:i<n):(rowL n f)[i]?=some (f i):=by
 unfold rowL;rw[List.getElem?_map,List.getElem?_range h];rfl
theorem rowL_set {n i:Nat}(f:Nat→Int)(v:Int):(rowL n f).set i v=rowL n fun b=>if b=i then v else f b:=by
 apply List.ext_getElem?
 intro j
 rw[List.getElem?_set]
 by_cases hj:j<n
 ·
  rw[rowL_at _ hj,rowL_at _ hj,rowL_len]
  by_cases e:i=j
  ·
   rw[if_pos e,if_pos (by omega),if_pos e.symm]
  ·
   rw[if_neg e,if_neg (fun z=>e z.symm)]
 ·
  have e1:(rowL n f)[j]?=none:=List.getElem?_eq_none (by rw[rowL_len];omega)
  have e2:(rowL n fun b=>if b=i then v else f b)[j]?=none:=List.getElem?_eq_none (by rw[rowL_len];omega)
  rw[e1,e2]
  split
  ·
   rw[if_neg (by rw[rowL_len];omega)]
  ·
   rfl
theorem rowL_congr {n:Nat}{f g:Nat→Int}(h:∀i,i<n→f i=g i):rowL n f=rowL n g:=by
 unfold rowL
 exact List.map_congr_left fun i hi=>h i (List.mem_range.mp hi)
abbrev Hrs:=Nat→List (Nat×List Bool)
def wsum (l:List (Nat×List Bool)):Nat:=(l.map fun x=>x.1).sum
def hit (g:Nat)(s t:List Nat)(l:List (Nat×List Bool)):Nat:=(l.map fun x=>x.1*(if nextW g s x.2==t then 1 else 0)).sum
def outs (m:Nat)(l:List (Nat×List Bool)):Nat:=(l.map fun x=>x.1*(if x.2.getD (m-1) false then 1 else 0)).sum
def balE (g:Nat)(T:List (List Nat))(L:Hrs)(a b:Nat):Int:=(if a=b then (wsum (L b):Int) else 0)-(hit g (T.getD b []) (T.getD a []) (L b):Int)
def put (L:Hrs)(i:Nat)(x:Nat×List Bool):Hrs:=fun b=>if b=i then L i++[x] else L b
theorem wsum_snoc (l:List (Nat×List Bool))(x:Nat×List Bool):wsum (l++[x])=wsum l+x.1:=by simp[wsum]
theorem hit_snoc (g:Nat)(s t:List Nat)(l:List (Nat×List Bool))(x:Nat×List Bool):hit g s t (l++[x])=hit g s t l+(if nextW g s x.2==t then x.1 else 0):=by
 unfold hit
 rw[List.map_append,List.sum_append]
 simp only[List.map_cons,List.map_nil,List.sum_cons,List.sum_nil,Nat.add_zero]
 split<;>simp
theorem outs_snoc (m:Nat)(l:List (Nat×List Bool))(x:Nat×List Bool):outs m (l++[x])=outs m l+x.1*(if x.2.getD (m-1) false then 1 else 0):=by simp[outs]
theorem balE_put {g:Nat}{T:List (List Nat)}{L:Hrs}{i q:Nat}{x:Nat×List Bool}(nd:T.Nodup)(hq:q<T.length)(e:nextW g (T.getD i []) x.2=T.getD q [])(a b:Nat)(ha:a<T.length):
  balE g T (put L i x) a b=if b=i then balE g T L a i+(if a=i then (x.1:Int) else 0)-(if a=q then (x.1:Int) else 0) else balE g T L a b:=by
 by_cases hb:b=i
 ·
  subst hb
  rw[if_pos rfl]
  simp only[balE,put,if_true]
  rw[wsum_snoc,hit_snoc,e]
  have heq:(T.getD q []==T.getD a [])=decide (a=q):=by
   by_cases z:a=q
   ·
    rw[z];simp
   ·
    rw[decide_eq_false z,beq_eq_false_iff_ne]
    intro zz
    have h1:=idx_getD T nd q hq
    have h2:=idx_getD T nd a ha
    rw[zz,h2] at h1
    exact z h1
  rw[heq]
  by_cases z:a=q
  ·
   simp only[z,decide_true,if_true]
   by_cases z2:q=b
   ·
    rw[if_pos z2,if_pos z2,if_pos z2];omega
   ·
    rw[if_neg z2,if_neg z2,if_neg z2];omega
  ·
   rw[decide_eq_false z,if_neg (show ¬(false=true) by decide),if_neg z]
   by_cases z2:a=b
   ·
    rw[if_pos z2,if_pos z2,if_pos z2];omega
   ·
    rw[if_neg z2,if_neg z2,if_neg z2];omega
 ·
  rw[if_neg hb]
  simp only[balE,put,hb,if_false]
theorem rows_done {c r:List Nat}{T:List (List Nat)}(hc:okCh c)(hT:0<T.length)(L:Hrs)(hL:∀b,b<T.length→L b=hoursOf c r (T.getD b [])):
  ((List.range T.length).map fun a=>rowL T.length (balE r.length T L a)).dropLast++[rowL T.length fun b=>(outs c.length (L b):Int),rowL T.length fun b=>(wsum (L b):Int)]=A4 c r T:=by
 unfold A4
 have e1:((List.range T.length).map fun a=>rowL T.length (balE r.length T L a)).dropLast=(List.range (T.length-1)).map fun a=>rowL T.length (balE r.length T L a):=by
  obtain⟨n,hn⟩:∃n,T.length=n+1:=⟨T.length-1,by omega⟩
  rw[hn,List.range_succ,List.map_append,List.map_cons,List.map_nil,List.dropLast_concat];rfl
 rw[e1]
 congr 1
 ·
  apply List.map_congr_left
  intro a ha
  have ha':=List.mem_range.mp ha
  unfold rowL
  apply List.map_congr_left
  intro b hb
  have hb':=List.mem_range.mp hb
  simp only[balE]
  rw[hL b hb',P_hours c r _ _ hc]
  have ew:wsum (hoursOf c r (T.getD b []))=10^c.length:=tot_hours c r _ hc
  rw[ew]
  by_cases z:a=b
  ·
   rw[if_pos z,if_pos z.symm];rfl
  ·
   rw[if_neg z,if_neg (fun q=>z q.symm)];rfl
 ·
  congr 1
  ·
   unfold rowL
   apply List.map_congr_left
   intro b hb
   rw[hL b (List.mem_range.mp hb),ow_hours c r _ hc];rfl
  ·
   congr 1
   unfold rowL
   apply List.map_congr_left
   intro b hb
   rw[hL b (List.mem_range.mp hb)]
   have ew:wsum (hoursOf c r (T.getD b []))=10^c.length:=tot_hours c r _ hc
   rw[ew]
theorem last_full {r:List Nat}{T:List (List Nat)}{n:Nat}(hn:n<r.length)(perm:T.Perm (states r))(up:T.Pairwise fun a b=>a.getD n 0≤b.getD n 0)
  (stays:∀c:Nat,T.filter (fun a=>a.getD n 0==c)=(states r).filter (fun a=>a.getD n 0==c)):T.getLast?=some r:=by
 have le:∀s∈states r,s.getD n 0≤r.getD n 0:=by
  have key:∀(r s:List Nat),s∈states r→∀n,s.getD n 0≤r.getD n 0:=by
   intro r
   induction r with
   | nil=>intro s h n;simp[states] at h;simp[h]
   |
    cons x r ih=>
    intro s h n
    simp only[states,List.mem_flatMap,List.mem_map,List.mem_range] at h
    obtain⟨k,hk,t,ht,e⟩:=h
    rw[←e]
    cases n with
    | zero=>simp;omega
    | succ n=>simp only[List.getD_cons_succ];exact ih t ht n
  exact fun s h=>key r s h n
 have hr:r∈states r:=List.mem_of_getLast? (states_last r)
 have hrT:r∈T:=perm.mem_iff.mpr hr
 obtain⟨z,hz⟩:∃z,T.getLast?=some z:=by
  cases e:T.getLast? with
  | none=>rw[List.getLast?_eq_none_iff] at e;rw[e] at hrT;simp at hrT
  | some z=>exact⟨z,rfl⟩
 have hzT:z∈T:=List.mem_of_getLast? hz
 have hzk:z.getD n 0=r.getD n 0:=by
  have h1:=le z (perm.mem_iff.mp hzT)
  have h2:r.getD n 0≤z.getD n 0:=by
   obtain⟨i,hi,e⟩:=List.mem_iff_getElem.mp hrT
   rw[List.getLast?_eq_getElem?] at hz
   obtain⟨hl,e2⟩:=List.getElem?_eq_some_iff.mp hz
   by_cases q:i=T.length-1
   ·
    subst q;rw[←e,←e2];exact Nat.le_refl _
   ·
    have:=List.pairwise_iff_getElem.mp up i (T.length-1) hi hl (by omega)
    rw[e,e2] at this;exact this
  omega
 have filt:∀(l:List (List Nat)) (y:List Nat),l.getLast?=some y→y.getD n 0=r.getD n 0→(l.filter fun a=>a.getD n 0==r.getD n 0).getLast?=some y:=by
  intro l y hl hy
  have hne:l≠[]:=by intro q;rw[q] at hl;simp at hl
  have e:l=l.dropLast++[y]:=by
   have h1:=List.dropLast_concat_getLast hne
   rw[List.getLast?_eq_some_getLast hne] at hl
   rw[Option.some.inj hl] at h1
   exact h1.symm
  rw[e,List.filter_append]
  have:[y].filter (fun a=>a.getD n 0==r.getD n 0)=[y]:=by simp only[List.filter_cons,List.filter_nil,hy,beq_self_eq_true,if_true]
  rw[this,List.getLast?_append];rfl
 have a1:=filt T z hz hzk
 have a2:=filt (states r) r (states_last r) rfl
 rw[stays] at a1
 rw[a1] at a2
 rw[hz];exact a2
end Rb
namespace L2
open PySem PySem.Spec PyProof.Rows
section
variable {X:Cx}
theorem getP_list:PGet X (rIxL X.K):=by
 intro pins s σ H o i ov iv Q I ro ri h
 obtain⟨p,xs,k,z,rfl,rfl,hq,he,q⟩:=h
 cases ro
 obtain⟨t,rfl⟩:=ri
 obtain⟨its,r,pl,hz⟩:=I.list hq
 obtain⟨j,h1,h2,h3,h4,h5⟩:=atI_get he
 obtain⟨w,ew,rw'⟩:=r.get h2
 have hl:=r.length
 have hn:=line63
 by_cases h0:0≤k
 ·
  have hj:k.toNat=j:=by
   rw[seqIndex_of h0 h5] at h1
   exact Option.some.inj h1
  exact wpAny_getItem_list pl.isList h0 (by omega) (by rw[hj];simpa using ew) ⟨z,H,I,rw',q⟩
 ·
  have hj:(k+(its.toArray.size:Int)).toNat=j:=by
   rw[seqIndex_neg (by omega) h4] at h1
   rw[List.size_toArray,←hl]
   exact Option.some.inj h1
  exact wpAny_getItem_list_neg pl.isList (by omega) (by rw[List.size_toArray]<;>omega) (by omega) (by rw[hj];simpa using ew) ⟨z,H,I,rw',q⟩
end
end L2
namespace Wk
open PySem PySem.Spec PyProof.Rows L2 Rb
def rLenA (K:PySem.W.Frag):List V→Hp→VK→Prop:=fun xs H Q=>∃p ys,xs=[.ref p]∧(SqL K H p ys∨SqT K H p ys)∧Q (.int ys.length) H
def RowAt (H:Hp)(t:Addr)(row:List Int):Prop:=H t=some (.lst (row.map V.int))
def RowsAt (H:Hp)(l:Addr)(rows:List (List Int)):Prop:=∃ts:List Addr,H l=some (.lst (ts.map V.ref))∧Paired (RowAt H) ts rows
section
variable {P:Program}{w:World}{K:PySem.W.Frag}{mg:Str→Option Value}{base:Heap}
def spEqs (K:PySem.W.Frag)(tb:Addr):Sp:=fun vs H Q _=>∃(ca wa:Addr) (c r:List Nat),vs=[.ref ca,.ref wa]∧SqA K H ca (c.map nV)∧WayAt K H wa r∧Fine c r∧Tab tb lPos lQual H∧
 ∀(H':Hp) (l:Addr) (T:List (List Nat)),Tord r T→A8 tb H H'→Tab tb lPos lQual H'→RowsAt H' l (A4 c r T)→Q (.ref l) H'
abbrev nEqs:List Str:=["chances","way","fillings","place","filling","places","balances","brought","together","weight","working","reached"]
theorem scEqs:Aq nEqs ["chances","way"] (Ag sEqs):=⟨rfl,rfl,rfl,by decide +kernel,rfl,by decide +kernel,by decide +kernel⟩
structure EqsEnv (K:PySem.W.Frag)(mg:Str→Option Value)(base:Heap)(P:Program)(w:World)(tb fO fH fF:Addr)(fdO fdH fdF:FuncData):Prop where
 gO:Ah P w K mg base CX0 3 fO fdO ["way"] (spOrdF K tb)
 bO:An K fdO ["way"] []
 kO:PySem.W.keepIn K (.ref fO)=true
 mO:mg "ordered_fillings"=some (.ref fO)
 gH:Ah P w K mg base CX0 2 fH fdH ["filling","way","chances"] (spHours K)
 bH:An K fdH ["filling","way","chances"] []
 kH:PySem.W.keepIn K (.ref fH)=true
 mH:mg "hours"=some (.ref fH)
 gF:Ah P w K mg base CX0 1 fF fdF ["filling","working"] (spFilled K)
 bF:An K fdF ["filling","working"] []
 kF:PySem.W.keepIn K (.ref fF)=true
 mF:mg "filled_after"=some (.ref fF)
 mD:mg "dict"=none
 mE:mg "enumerate"=none
 mL:mg "len"=none
structure EqSt (H2 H:Hp)(D br tg:Addr)(bs:List Addr)(n:Nat)(f:Nat→Nat→Int)(g1 g2:Nat→Int):Prop where
 same:Ae H2 H
 new:∀b∈D::br::tg::bs,H2 b=none
 nd:(D::br::tg::bs).Nodup
 len:bs.length=n
 atD:H D=some (.lst (bs.map V.ref))
 mat:∀a,a<n→H (bs.getD a 0)=some (.lst ((rowL n (f a)).map V.int))
 atB:H br=some (.lst ((rowL n g1).map V.int))
 atT:H tg=some (.lst ((rowL n g2).map V.int))
theorem bs_mem {bs:List Addr}{a:Nat}(h:a<bs.length):bs.getD a 0∈bs:=by
 rw[List.getD_eq_getElem?_getD,List.getElem?_eq_getElem h];exact List.getElem_mem h
theorem bs_inj {bs:List Addr}(nd:bs.Nodup){a b:Nat}(ha:a<bs.length)(hb:b<bs.length)(e:bs.getD a 0=bs.getD b 0):a=b:=by
 rw[List.getD_eq_getElem?_getD,List.getElem?_eq_getElem ha,List.getD_eq_getElem?_getD,List.getElem?_eq_getElem hb] at e
 exact (List.getElem_inj nd).mp e
theorem map_set_int (n b:Nat)(f:Nat→Int)(v:Int):((rowL n f).map V.int).set b (.int v)=(rowL n fun x=>if x=b then v else f x).map V.int:=by
 rw[←rowL_set,List.map_set]
section
variable {H2 H:Hp}{D br tg:Addr}{bs:List Addr}{n:Nat}{f:Nat→Nat→Int}{g1 g2:Nat→Int}
theorem EqSt.keep {H':Hp}(S:EqSt H2 H D br tg bs n f g1 g2)(s:Ae H H'):EqSt H2 H' D br tg bs n f g1 g2:=
 ⟨Ae.trans S.same s,S.new,S.nd,S.len,s _ _ S.atD,fun a ha=>s _ _ (S.mat a ha),s _ _ S.atB,s _ _ S.atT⟩
theorem EqSt.ne (S:EqSt H2 H D br tg bs n f g1 g2):D≠br∧D≠tg∧D∉bs∧br≠tg∧br∉bs∧tg∉bs∧bs.Nodup:=by
 have nd:=S.nd
 simp only[List.nodup_cons,List.mem_cons,not_or] at nd
 exact⟨nd.1.1,nd.1.2.1,nd.1.2.2,nd.2.1.1,nd.2.1.2,nd.2.2.1,nd.2.2.2⟩
theorem EqSt.setM (S:EqSt H2 H D br tg bs n f g1 g2){a b:Nat}(ha:a<n)(v:Int):
  EqSt H2 (upd H (bs.getD a 0) (.lst (((rowL n (f a)).map V.int).set b (.int v)))) D br tg bs n (fun x y=>if x=a then (if y=b then v else f a y) else f x y) g1 g2:=by
 obtain⟨e1,e2,e3,e4,e5,e6,nd⟩:=S.ne
 have hl:=S.len
 have hm:bs.getD a 0∈bs:=bs_mem (by omega)
 have nD:D≠bs.getD a 0:=fun z=>e3 (z▸hm)
 have nB:br≠bs.getD a 0:=fun z=>e5 (z▸hm)
 have nT:tg≠bs.getD a 0:=fun z=>e6 (z▸hm)
 have nw:H2 (bs.getD a 0)=none:=S.new _ (List.mem_cons_of_mem _ (List.mem_cons_of_mem _ (List.mem_cons_of_mem _ hm)))
 refine⟨fun c o e=>by rw[Ai (Aj e nw)];exact S.same _ _ e,S.new,S.nd,S.len,by rw[Ai nD];exact S.atD,fun x hx=>?_,by rw[Ai nB];exact S.atB,by rw[Ai nT];exact S.atT⟩
 by_cases z:x=a
 ·
  subst z
  rw[Ab,map_set_int]
  simp only[if_true]
 ·
  rw[Ai (fun q=>z (bs_inj nd (by omega) (by omega) q)),S.mat x hx]
  simp only[z,if_false]
theorem EqSt.setB (S:EqSt H2 H D br tg bs n f g1 g2)(b:Nat)(v:Int):EqSt H2 (upd H br (.lst (((rowL n g1).map V.int).set b (.int v)))) D br tg bs n f (fun x=>if x=b then v else g1 x) g2:=by
 obtain⟨e1,e2,e3,e4,e5,e6,nd⟩:=S.ne
 have hl:=S.len
 have nw:H2 br=none:=S.new _ (by simp)
 refine⟨fun c o e=>by rw[Ai (Aj e nw)];exact S.same _ _ e,S.new,S.nd,S.len,by rw[Ai e1];exact S.atD,fun x hx=>?_,by rw[Ab,map_set_int],by rw[Ai (Ne.symm e4)];exact S.atT⟩
 rw[Ai (fun (z:bs.getD x 0=br)=>e5 (by rw[←z];exact bs_mem (by omega)))];exact S.mat x hx
theorem EqSt.setT (S:EqSt H2 H D br tg bs n f g1 g2)(b:Nat)(v:Int):EqSt H2 (upd H tg (.lst (((rowL n g2).map V.int).set b (.int v)))) D br tg bs n f g1 (fun x=>if x=b then v else g2 x):=by
 obtain⟨e1,e2,e3,e4,e5,e6,nd⟩:=S.ne
 have hl:=S.len
 have nw:H2 tg=none:=S.new _ (by simp)
 refine⟨fun c o e=>by rw[Ai (Aj e nw)];exact S.same _ _ e,S.new,S.nd,S.len,by rw[Ai e2];exact S.atD,fun x hx=>?_,by rw[Ai e4];exact S.atB,by rw[Ab,map_set_int]⟩
 rw[Ai (fun (z:bs.getD x 0=tg)=>e6 (by rw[←z];exact bs_mem (by omega)))];exact S.mat x hx
theorem EqSt.congr {f':Nat→Nat→Int}{h1 h2:Nat→Int}(S:EqSt H2 H D br tg bs n f g1 g2)(e:∀a b,a<n→b<n→f a b=f' a b)(e1:∀b,b<n→g1 b=h1 b)(e2:∀b,b<n→g2 b=h2 b):EqSt H2 H D br tg bs n f' h1 h2:=
 ⟨S.same,S.new,S.nd,S.len,S.atD,fun a ha=>by rw[S.mat a ha,rowL_congr (fun b hb=>e a b ha hb)],by rw[S.atB,rowL_congr e1],by rw[S.atT,rowL_congr e2]⟩
end
def A7 (s:List Nat):List Key:=s.map fun n=>Sum.inl ((n:Nat):Int)
theorem keyOf_kV (s:List Nat):(A7 s).map kV=s.map nV:=by unfold A7;rw[List.map_map];rfl
theorem keyOf_inj {a b:List Nat}(h:A7 a=A7 b):a=b:=by
 have:a.map nV=b.map nV:=by rw[←keyOf_kV,←keyOf_kV,h]
 exact nV_inj this
theorem PairT.mono:TupMono PairT:=fun H H' t x k h=>⟨k _ _ h.1,k _ _ h.2⟩
def plc (T:List (List Nat))(ts:List Addr):List (List Key×Addr×V):=(List.range T.length).map fun j=>(A7 (T.getD j []),ts.getD j 0,nV j)
theorem plc_at {T:List (List Nat)}{ts:List Addr}{j:Nat}(h:j<T.length):(plc T ts)[j]?=some (A7 (T.getD j []),ts.getD j 0,nV j):=by
 unfold plc;rw[List.getElem?_map,List.getElem?_range h];rfl
theorem plc_nd {T:List (List Nat)}{ts:List Addr}(nd:T.Nodup):((plc T ts).map (·.1)).Nodup:=by
 have e:(plc T ts).map (·.1)=T.map A7:=by
  unfold plc;rw[List.map_map]
  exact map_range_getD T [] A7
 rw[e]
 exact List.Pairwise.map _ (fun a b hab z=>hab (keyOf_inj z)) nd
theorem plc_val {T:List (List Nat)}{ts:List Addr}(nd:T.Nodup){q:Nat}(h:q<T.length):valV ((plc T ts).map fun x=>(x.1,x.2.2)) (A7 (T.getD q []))=some (nV q):=by
 have hm:((A7 (T.getD q [])),nV q)∈(plc T ts).map fun x=>(x.1,x.2.2):=by
  refine List.mem_map.mpr ⟨_,List.mem_of_getElem? (plc_at h),rfl⟩
 have hk:(((plc T ts).map fun x=>(x.1,x.2.2)).map (·.1)).Nodup:=by
  rw[List.map_map];exact plc_nd nd
 have gen:∀(kvs:List (List Key×V)),(kvs.map (·.1)).Nodup→∀k v,(k,v)∈kvs→valV kvs k=some v:=by
  intro kvs
  induction kvs with
  | nil=>intro _ k v h;simp at h
  |
   cons p l ih=>
   intro hn k v hm
   rw[List.map_cons,List.nodup_cons] at hn
   rcases List.mem_cons.mp hm with e | e
   ·
    rw[←e];exact valV_pos rfl
   ·
    rw[valV_neg (fun z=>hn.1 (by rw[z];exact List.mem_map.mpr ⟨_,e,rfl⟩))]
    exact ih hn.2 k v e
 exact gen _ hk _ _ hm
theorem SqA.sameT {tb:Addr}{pos:Pos}{q:Str}{H H':Hp}(t:A8 tb H H')(b:Tab tb pos q H){a:Addr}{xs:List V}(h:SqA K H a xs):SqA K H' a xs:=by
 rcases h with h | (h | ⟨o,h⟩) | h
 ·
  exact .inl (A8.lst t b h)
 ·
  exact .inr (.inl (.inl (A8.tup t b _ _ h)))
 ·
  obtain⟨ps,hP,_⟩:=b.ex
  exact .inr (.inl (.inr ⟨o,t _ _ h fun z=>by rw[z,hP] at h;cases h⟩))
 ·
  exact .inr (.inr h)
theorem after_next {c r s:List Nat}(F:Fine c r)(hs:s.length=r.length){x:Nat×List Bool}(hx:x∈hoursOf c r s):afterV s x.2=(nextW r.length s x.2).map nV:=by
 unfold afterV nextW
 rw[List.map_map,hs]
 apply List.map_congr_left
 intro i hi
 have hi':=List.mem_range.mp hi
 have:=next_int c r s x hx i (by have:=F.lens;omega)
 show V.int _=V.int _
 rw[←this]
theorem next_mem {c r s:List Nat}{T:List (List Nat)}(F:Fine c r)(O:Tord r T)(hs:s∈T){x:Nat×List Bool}(hx:x∈hoursOf c r s):nextW r.length s x.2∈T:=by
 have Or:=F.ord T O.perm O.last
 obtain⟨u,hu,e⟩:=hours_wk _ _ x hx
 have hz:(zs c.length r s).length=c.length:=by simp[zs]
 rw[hz] at hu
 have h:=Or.closed s hs u hu
 rw[next_nextW,works_wk (Su112.line c r) s u (ups_len _ _ hu)] at h
 rw[e];exact h
theorem getD_of {T:List (List Nat)}{s:List Nat}(h:s∈T):∃q,q<T.length∧T.getD q []=s:=by
 obtain⟨i,hi,e⟩:=List.mem_iff_getElem.mp h
 exact⟨i,hi,by rw[List.getD_eq_getElem?_getD,List.getElem?_eq_getElem hi,e];rfl⟩
end
end Wk
namespace Wk
open PySem PySem.Spec PyProof.Rows L2 Rb
theorem paired_ix {α β:Type}{F:α→β→Prop}:∀{l1:List α} {l2:List β},l1.length=l2.length→(∀(i:Nat) (a:α) (b:β),l1[i]?=some a→l2[i]?=some b→F a b)→Paired F l1 l2
 | [],[],_,_=>.nil
 | a::l1,b::l2,h,k=>.cons (k 0 a b rfl rfl) (paired_ix (by simpa using h) fun i x y e1 e2=>k (i+1) x y (by simpa using e1) (by simpa using e2))
 | [],_::_,h,_=>by simp at h
 | _::_,[],h,_=>by simp at h
theorem rep_flat (n:Nat):(List.replicate n [V.int 0]).flatten=(rowL n fun _=>0).map V.int:=by
 unfold rowL
 rw[List.map_map]
 induction n with
 | zero=>rfl
 | succ n ih=>rw[List.replicate_succ',List.flatten_append,ih,List.range_succ,List.map_append];rfl
structure BMk (H2 H:Hp)(D:Addr)(bs:List Addr)(n:Nat):Prop where
 same:Ae H2 H
 new:∀b∈D::bs,H2 b=none
 nd:(D::bs).Nodup
 atD:H D=some (.lst (bs.map V.ref))
 mat:∀b∈bs,H b=some (.lst ((rowL n fun _=>0).map V.int))
theorem BMk.start {H2:Hp}{D:Addr}{n:Nat}(hD:H2 D=none):BMk H2 (upd H2 D (.lst [])) D [] n:=
 ⟨Ae.upd hD,fun b hb=>by rw[List.mem_singleton.mp hb];exact hD,by simp,Ab,fun b hb=>by simp at hb⟩
theorem BMk.step {H2 H H3:Hp}{D p:Addr}{bs:List Addr}{n:Nat}(B:BMk H2 H D bs n)(s:Ae H H3)(hp:H3 p=none):
  BMk H2 (upd (upd H3 p (.lst ((rowL n fun _=>0).map V.int))) D (.lst (bs.map V.ref++[.ref p]))) D (bs++[p]) n:=by
 have hpD:D≠p:=Aj (s _ _ B.atD) hp
 have hpb:∀b∈bs,b≠p:=fun b hb=>Aj (s _ _ (B.mat b hb)) hp
 have ndc:=List.nodup_cons.mp B.nd
 have hDb:∀b∈bs,b≠D:=fun b hb z=>ndc.1 (z▸hb)
 have hD0:H2 D=none:=B.new D (by simp)
 refine⟨fun b o e=>?_,fun b hb=>?_,?_,by rw[Ab,List.map_append];rfl,fun b hb=>?_⟩
 ·
  rw[Ai (Aj e hD0)]
  exact Ae.upd hp _ _ (s _ _ (B.same _ _ e))
 ·
  rcases List.mem_cons.mp hb with rfl | hb
  ·
   exact hD0
  ·
   rcases List.mem_append.mp hb with hb | hb
   ·
    exact B.new b (List.mem_cons_of_mem _ hb)
   ·
    rw[List.mem_singleton.mp hb];exact (Ae.trans B.same s).free hp
 ·
  rw[List.nodup_cons]
  refine⟨fun h=>?_,?_⟩
  ·
   rcases List.mem_append.mp h with h | h
   ·
    exact ndc.1 h
   ·
    exact hpD (List.mem_singleton.mp h)
  ·
   rw[List.nodup_append]
   exact⟨ndc.2,by simp,fun a ha b hb=>by rw[List.mem_singleton.mp hb];exact hpb a ha⟩
 ·
  rcases List.mem_append.mp hb with hb | hb
  ·
   rw[Ai (hDb b hb),Ai (hpb b hb)];exact s _ _ (B.mat b hb)
  ·
   rw[List.mem_singleton.mp hb,Ai (Ne.symm hpD)];exact Ab
theorem BMk.done {H2 H Ha Hc:Hp}{D br tg:Addr}{bs:List Addr}{n:Nat}(B:BMk H2 H D bs n)(hl:bs.length=n)(s1:Ae H Ha)(hb:Ha br=none)(s2:Ae (upd Ha br (.lst ((rowL n fun _=>0).map V.int))) Hc)(ht:Hc tg=none):
  EqSt H2 (upd Hc tg (.lst ((rowL n fun _=>0).map V.int))) D br tg bs n (fun _ _=>0) (fun _=>0) (fun _=>0):=by
 have sab:=Ae.upd (o:=.lst ((rowL n fun _=>0).map V.int)) hb
 have sc:=Ae.upd (o:=.lst ((rowL n fun _=>0).map V.int)) ht
 have all:Ae H (upd Hc tg (.lst ((rowL n fun _=>0).map V.int))):=Ae.trans s1 (Ae.trans sab (Ae.trans s2 sc))
 have sHc:Ae H Hc:=Ae.trans s1 (Ae.trans sab s2)
 have hbr:Hc br=some (.lst ((rowL n fun _=>0).map V.int)):=s2 _ _ Ab
 refine⟨Ae.trans B.same all,?_,?_,hl,all _ _ B.atD,fun a ha=>all _ _ (B.mat _ (bs_mem (by omega))),sc _ _ hbr,Ab⟩
 ·
  intro b hb'
  rcases List.mem_cons.mp hb' with rfl | hb'
  ·
   exact B.new _ (by simp)
  ·
   rcases List.mem_cons.mp hb' with rfl | hb'
   ·
    exact (Ae.trans B.same s1).free hb
   ·
    rcases List.mem_cons.mp hb' with rfl | hb'
    ·
     exact (Ae.trans B.same sHc).free ht
    ·
     exact B.new _ (List.mem_cons_of_mem _ hb')
 ·
  have ndc:=List.nodup_cons.mp B.nd
  have a1:D≠br:=Aj (s1 _ _ B.atD) hb
  have a2:D≠tg:=Aj (sHc _ _ B.atD) ht
  have a3:br≠tg:=Aj hbr ht
  have a4:br∉bs:=fun h=>Aj (s1 _ _ (B.mat _ h)) hb rfl
  have a5:tg∉bs:=fun h=>Aj (sHc _ _ (B.mat _ h)) ht rfl
  simp only[List.nodup_cons,List.mem_cons,not_or]
  exact⟨⟨a1,a2,ndc.1⟩,⟨a3,a4⟩,a5,ndc.2⟩
def KeepR (H H':Hp):Prop:=∀b o,H b=some o→(∀row:List Int,row≠[]→o≠.lst (row.map V.int))→H' b=some o
theorem KeepR.refl (H:Hp):KeepR H H:=fun _ _ e _=>e
theorem KeepR.of {H H':Hp}(s:Ae H H'):KeepR H H':=fun b o e _=>s b o e
theorem KeepR.trans {H H1 H2:Hp}(a:KeepR H H1)(b:KeepR H1 H2):KeepR H H2:=fun c o e h=>b c o (a c o e h) h
theorem KeepR.upd {H:Hp}{p:Addr}{row:List Int}{o:HO}(hp:H p=some (.lst (row.map V.int)))(hne:row≠[]):KeepR H (upd H p o):=fun b u e h=>by
 rw[Ai (fun z=>by rw[z,hp] at e;exact h row hne (Option.some.inj e).symm)];exact e
theorem KeepR.refs {H H':Hp}(k:KeepR H H'){a:Addr}{ts:List Addr}(h:H a=some (.lst (ts.map V.ref))):H' a=some (.lst (ts.map V.ref)):=
 k a _ h fun row hr e=>by
  cases row with
  | nil=>exact hr rfl
  |
   cons x row=>
   cases ts with
   | nil=>simp at e
   | cons t ts=>simp at e
theorem KeepR.tup {H H':Hp}(k:KeepR H H'){a:Addr}{xs:List V}(h:H a=some (.tup xs)):H' a=some (.tup xs):=
 k a _ h fun row hr e=>by cases e
theorem KeepR.hr {H H':Hp}(k:KeepR H H'){t:Addr}{x:Nat×List Bool}(h:HrAt H t x):HrAt H' t x:=by
 obtain⟨wa,h1,h2⟩:=h
 exact⟨wa,k.tup h1,k.tup h2⟩
theorem rowL_ne {n:Nat}{f:Nat→Int}(h:0<n):rowL n f≠[]:=fun z=>by
 have:=congrArg List.length z
 rw[rowL_len] at this
 simp at this;omega
section
variable {H2 H:Hp}{D br tg:Addr}{bs:List Addr}{n:Nat}{f:Nat→Nat→Int}{g1 g2:Nat→Int}
theorem EqSt.aM (S:EqSt H2 H D br tg bs n f g1 g2){a:Nat}(ha:a<n)(b:Nat)(v:Int):
  EqSt H2 (upd H (bs.getD a 0) (.lst (((rowL n (f a)).map V.int).set b (.int v)))) D br tg bs n (fun x y=>if x=a then (if y=b then v else f a y) else f x y) g1 g2∧KeepR H (upd H (bs.getD a 0) (.lst (((rowL n (f a)).map V.int).set b (.int v)))):=
 ⟨S.setM ha v,KeepR.upd (S.mat a ha) (rowL_ne (by omega))⟩
theorem EqSt.aB (S:EqSt H2 H D br tg bs n f g1 g2)(hn:0<n)(b:Nat)(v:Int):
  EqSt H2 (upd H br (.lst (((rowL n g1).map V.int).set b (.int v)))) D br tg bs n f (fun x=>if x=b then v else g1 x) g2∧KeepR H (upd H br (.lst (((rowL n g1).map V.int).set b (.int v)))):=
 ⟨S.setB b v,KeepR.upd S.atB (rowL_ne hn)⟩
theorem EqSt.aT (S:EqSt H2 H D br tg bs n f g1 g2)(hn:0<n)(b:Nat)(v:Int):
  EqSt H2 (upd H tg (.lst (((rowL n g2).map V.int).set b (.int v)))) D br tg bs n f g1 (fun x=>if x=b then v else g2 x)∧KeepR H (upd H tg (.lst (((rowL n g2).map V.int).set b (.int v)))):=
 ⟨S.setT b v,KeepR.upd S.atT (rowL_ne hn)⟩
end
theorem bal_four {g:Nat}{T:List (List Nat)}{L:Hrs}{i q:Nat}{x:Nat×List Bool}(nd:T.Nodup)(hq:q<T.length)(e:nextW g (T.getD i []) x.2=T.getD q [])(a b:Nat)(ha:a<T.length)(f8:Nat→Nat→Int)
  (h8:f8=fun u v=>if u=i then (if v=i then balE g T L i i+(x.1:Int) else balE g T L i v) else balE g T L u v):
  (if a=q then (if b=i then f8 q i-(x.1:Int) else f8 q b) else f8 a b)=balE g T (put L i x) a b:=by
 rw[balE_put nd hq e a b ha]
 subst h8
 dsimp only
 by_cases z1:b=i
 ·
  subst z1
  simp only[if_true]
  by_cases z2:a=q
  ·
   subst z2
   by_cases z3:a=b
   ·
    subst z3;simp only[if_true]
   ·
    simp only[z3,if_true,if_false];omega
  ·
   by_cases z3:a=b
   ·
    subst z3;simp only[z2,if_true,if_false];omega
   ·
    simp only[z2,z3,if_true,if_false];omega
 ·
  simp only[z1,if_false]
  by_cases z2:a=q
  ·
   subst z2
   by_cases z3:a=i
   ·
    subst z3;simp only[if_true]
   ·
    simp only[z3,if_true,if_false]
  ·
   by_cases z3:a=i
   ·
    subst z3;simp only[z2,if_true,if_false]
   ·
    simp only[z2,z3,if_false]
theorem rowL_ix {n i:Nat}{f:Nat→Int}(h:i<n):atI ((rowL n f).map V.int) ((i:Nat):Int)=some (.int (f i)):=by
 apply atI_nat;rw[List.getElem?_map,rowL_at _ h];rfl
theorem ixN_nat {n i:Nat}(h:i<n):ixN n ((i:Nat):Int)=some i:=by
 unfold ixN
 rw[if_pos (by omega),if_pos (by omega)];simp
theorem bs_ix {bs:List Addr}{i:Nat}(h:i<bs.length):atI (bs.map V.ref) ((i:Nat):Int)=some (.ref (bs.getD i 0)):=by
 apply atI_nat;rw[List.getElem?_map,List.getElem?_eq_getElem h,List.getD_eq_getElem?_getD,List.getElem?_eq_getElem h];rfl
theorem last_bV {w:List Bool}(h:0<w.length):atI (w.map bV) (-1)=some (bV (w.getD (w.length-1) false)):=by
 obtain⟨l,x,rfl⟩:∃l x,w=l++[x]:=by
  have hne:w≠[]:=by intro z;rw[z] at h;simp at h
  exact⟨w.dropLast,w.getLast hne,(List.dropLast_concat_getLast hne).symm⟩
 rw[List.map_append]
 have:=atI_last (l.map bV) (bV x)
 have e:(l++[x]).getD ((l++[x]).length-1) false=x:=by simp[List.getD_eq_getElem?_getD]
 rw[e];exact this
def Lat (c r:List Nat)(T:List (List Nat))(i:Nat):Hrs:=fun b=>if b<i then hoursOf c r (T.getD b []) else []
def Lat2 (c r:List Nat)(T:List (List Nat))(i j:Nat):Hrs:=fun b=>if b<i then hoursOf c r (T.getD b []) else if b=i then (hoursOf c r (T.getD i [])).take j else []
theorem Lat2_zero (c r:List Nat)(T:List (List Nat))(i:Nat):Lat2 c r T i 0=Lat c r T i:=by
 funext b;unfold Lat2 Lat;simp
theorem Lat2_full (c r:List Nat)(T:List (List Nat))(i:Nat):Lat2 c r T i (hoursOf c r (T.getD i [])).length=Lat c r T (i+1):=by
 funext b
 unfold Lat2 Lat
 by_cases h:b<i
 ·
  rw[if_pos h,if_pos (by omega)]
 ·
  rw[if_neg h]
  by_cases e:b=i
  ·
   subst e;rw[if_pos rfl,if_pos (by omega),List.take_length]
  ·
   rw[if_neg e,if_neg (by omega)]
theorem Lat2_step {c r:List Nat}{T:List (List Nat)}{i j:Nat}{x:Nat×List Bool}(h:(hoursOf c r (T.getD i []))[j]?=some x):Lat2 c r T i (j+1)=put (Lat2 c r T i j) i x:=by
 funext b
 unfold Lat2 put
 by_cases e:b=i
 ·
  subst e
  simp only[Nat.lt_irrefl,if_false,if_true]
  rw[AJ h]
 ·
  simp only[e,if_false]
theorem cut_last (xs:List V):cutV xs none (some (-1))=xs.dropLast:=by
 unfold cutV
 have h1:HT.sIx xs.length 0 none=0:=rfl
 have h2:HT.sIx xs.length xs.length (some (-1))=xs.length-1:=by
  show (if (-1:Int)<0 then ((-1:Int)+(xs.length:Int)).toNat else min (-1:Int).toNat xs.length)=xs.length-1
  rw[if_pos (by decide)];omega
 rw[h1,h2,List.drop_zero,Nat.sub_zero,List.dropLast_eq_take]
end Wk
namespace Wk
open PySem PySem.Spec PyProof.Rows L2 Rb
section
variable {P:Program}{w:World}{K:PySem.W.Frag}{mg:Str→Option Value}{base:Heap}
theorem ok_eqs {f tb fO fH fF:Addr}{fd fdO fdH fdF:FuncData}(F:Fun K "equations" "equations" sEqs f fd)(G:EqsEnv K mg base P w tb fO fH fF fdO fdH fdF):Ah P w K mg base CX0 4 f fd ["chances","way"] (spEqs K tb):=by
 refine F.ok scEqs (fun vs H Q E h=>?_) (fun cdv A outer s H vs Q E hr h=>?_)
 ·
  obtain⟨ca,wa,c,r,rfl,_⟩:=h
  rfl
 ·
  obtain⟨ca,wa,c,r,rfl,hc,hw,hF,tbl,k⟩:=h
  have hr2:AM 2 _:=hr.mono (by decide)
  have hr1:AM 1 _:=hr.mono (by decide)
  have hu:_+1<cLine:=hu_of hr
  have hu2:(A.deeper (envOfC "equations" (Ag sEqs) s.heap.objs.size f cdv)).units+2<cLine:=by have:=hr.units;omega
  refine⟨_,Ad (As (i:=2) scEqs.nd rfl (Or.inr rfl) (Aw G.gO hr rfl G.mO G.kO G.bO .nil Ap (Aa (pv 1) Ac)))<|
   Ad (As (i:=5) scEqs.nd rfl (Or.inl rfl) (A2 (call_dictT rfl hu2) rfl G.mD (by decide +kernel) (Aa (pe_lc (own:=[("place",3),("filling",4)]) (g:=gTup K 2 (gCons (gName 3) (gCons (gName 4) gNil))) rfl scEqs.nd (pi_enum rfl G.mE (Aa (pv 2) Ac)) (A5 (by show blkC nEqs (Ag sEqs) _ _=true;decide +kernel))
    (fun _ _ _ _ _=>pg_tup rfl (AS (Au (i:=3) scEqs.nd rfl (Or.inl rfl) (.inr rfl)) (AS (Au (i:=4) scEqs.nd rfl (Or.inl rfl) (.inr rfl)) pgs_nil))) (fun _ _ _ _ _=>pts_nil) (fun _ _ _ _ _=>A6 (Aa (pv 4) (Aa (pv 3) Ac)))) Ac)))<|
   Ad (ps_setLc (i:=6) (own:=[("filling",4)]) (g:=gName 4) rfl scEqs.nd rfl rfl (sw_true rfl rfl rfl rfl) (A1 (pv 2)) (A5 (by show blkC nEqs (Ag sEqs) _ _=true;decide +kernel)) (fun _ _ _ _ _=>Au (i:=4) scEqs.nd rfl (Or.inl rfl) (.inr rfl)) (fun _ _ _ _ _=>pts_nil)
    (fun _ _ _ _ _=>AH op_rep (AD (Aa Ao Ac)) (Az (r:=rLenA K) At rfl G.mL PySem.boot_len (Aa (pv 2) Ac))))<|
   Ad (As (i:=7) scEqs.nd rfl (Or.inl rfl) (AH op_rep (AD (Aa Ao Ac)) (Az (r:=rLenA K) At rfl G.mL PySem.boot_len (Aa (pv 2) Ac))))<|
   Ad (As (i:=8) scEqs.nd rfl (Or.inl rfl) (AH op_rep (AD (Aa Ao Ac)) (Az (r:=rLenA K) At rfl G.mL PySem.boot_len (Aa (pv 2) Ac))))<|
   Ad (ps_for PassesOwn.never rfl (pi_enum rfl G.mE (Aa (pv 2) Ac)) (pg_tup rfl (AS (Au (i:=3) scEqs.nd rfl (Or.inl rfl)) (AS (Au (i:=4) scEqs.nd rfl (Or.inl rfl)) pgs_nil)))<|
    Af (ps_for PassesOwn.never rfl (A1 (Aw G.gH hr2 rfl G.mH G.kH G.bH .nil Ap (Aa (pv 4) (Aa (pv 1) (Aa (pv 0) Ac))))) (pg_tup rfl (AS (Au (i:=9) scEqs.nd rfl (Or.inl rfl)) (AS (Au (i:=10) scEqs.nd rfl (Or.inl rfl)) pgs_nil)))<|
     Ad (As (i:=11) scEqs.nd rfl (Or.inl rfl) (pe_dget hu (pv 5) (Aw G.gF hr1 rfl G.mF G.kF G.bF .nil Ap (Aa (pv 4) (Aa (pv 10) Ac))) (fun _ _=>rfl)))<|
     Ad (ps_augS (AK AI (pv 6) (pv 3) (fun _ _=>rfl)) (pv 3) getP_list (pv 9) ip_add set_list)<|
     Ad (ps_augS (AK AI (pv 6) (pv 11) (fun _ _=>rfl)) (pv 3) getP_list (pv 9) ip_sub set_list)<|
     Ad (ps_augS (pv 7) (pv 3) getP_list (AH op_mul (pv 9) (AK ix_tup (pv 10) (pe_un un_neg Ao) (fun _ _=>rfl))) ip_add set_list)<|
     Af (ps_augS (pv 8) (pv 3) getP_list (pv 9) ip_add set_list)))<|
   Af (Al (AH op_cat (pe_slice sl_list (pv 6) po_none (po_some (pe_un un_neg Ao))) (AD (Aa (pv 7) (Aa (pv 8) Ac))))),?_⟩
  refine⟨_,rfl,wa,r,rfl,hw,states_len_le hF,hF.few.1,by have:=hF.few;omega,tbl,fun H1 l n T hn sT tb1 bk hl1=>?_⟩
  have O:Tord r T:=⟨bk.perm,last_full hn bk.perm bk.up bk.stays⟩
  have Or:=hF.ord T O.perm O.last
  have nd:=Or.nodup
  obtain⟨ts,hla,hts⟩:=hl1
  have hlen:ts.length=T.length:=hts.length
  have h27:T.length≤27:=by rw[O.perm.length_eq];exact states_len_le hF
  have hpos:=Or.pos
  have hc1:SqA K H1 ca (c.map nV):=SqA.sameT sT tbl hc
  have hw1:SqA K H1 wa (r.map nV):=SqA.sameT sT tbl hw.sq
  have tsAt:∀(i:Nat) (x:V),(ts.map V.ref)[i]?=some x→i<T.length∧x=.ref (ts.getD i 0)∧AR H1 (ts.getD i 0) (T.getD i []):=fun i x hi=>by
   obtain⟨t,ht,rfl⟩:=AL hi
   obtain⟨f,hf,hft⟩:=AF hts ht
   obtain⟨hi1,e1⟩:=List.getElem?_eq_some_iff.mp ht
   obtain⟨hi2,e2⟩:=List.getElem?_eq_some_iff.mp hf
   have g1:ts.getD i 0=t:=by rw[List.getD_eq_getElem?_getD,ht];rfl
   have g2:T.getD i []=f:=by rw[List.getD_eq_getElem?_getD,hf];rfl
   rw[g1,g2]
   exact⟨hi2,rfl,hft⟩
  refine⟨_,rfl,l,_,rfl,SqL.of hla,fun D hD=>?_⟩
  refine lc_enum (K:=K) (a:=l) (xs:=ts.map V.ref) (fun i H'=>GMk PairT H1 H' D ((plc T ts).take i)) (GMk.start (Ae.refl _) hD) (fun i H' _ M=>SqL.of (M.same _ _ hla)) ?_ ?_
  ·
   rintro i x H' hi M t ht
   obtain⟨hiT,rfl,hst⟩:=tsAt i x hi
   have sT':Ae H' (upd H' t (.tup [.int ((i:Nat):Int),.ref (ts.getD i 0)])):=Ae.upd ht
   refine⟨t,_,rfl,SqT.of Ab,rfl,_,_,rfl,_,_,rfl,rfl,rfl,?_⟩
   dsimp only[tYes]
   rw[if_pos rfl]
   refine⟨_,rfl,_,rfl,(by show 2≤sizeLine;decide),fun q hq=>?_⟩
   have s3:Ae H' (upd (upd H' t (.tup [.int ((i:Nat):Int),.ref (ts.getD i 0)])) q (.tup [.ref (ts.getD i 0),.int ((i:Nat):Int)])):=Ae.trans sT' (Ae.upd hq)
   have hpl:(plc T ts).length=T.length:=by unfold plc;simp
   obtain⟨gs,a1,a2,a3,_⟩:=M.grow (x:=(A7 (T.getD i []),ts.getD i 0,nV i)) (t:=q) PairT.mono s3 ⟨Ab,by
    rw[keyOf_kV];exact s3 _ _ (M.same _ _ hst)⟩ (by rw[List.length_take];omega)
   refine⟨gs,a1,a2,?_⟩
   rw[AJ (plc_at hiT)];exact a3
  ·
   rintro H' M
   have hpl:(plc T ts).length=T.length:=by unfold plc;simp
   rw[List.length_map,hlen,←hpl,List.take_length] at M
   obtain⟨ps,hps,hpp⟩:=M.at_
   refine⟨D,ps,plc T ts,rfl,SqL.of hps,hpp,plc_nd nd,fun pl hpl0=>?_⟩
   have s2:Ae H1 (upd H' pl (.dT ((plc T ts).map fun q=>(q.1,q.2.2)))):=Ae.trans M.same (Ae.upd hpl0)
   generalize hH2:upd H' pl (.dT ((plc T ts).map fun q=>(q.1,q.2.2)))=H2 at s2
   have hdt:H2 pl=some (.dT ((plc T ts).map fun q=>(q.1,q.2.2))):=by rw[←hH2];exact Ab
   have hl2:=s2 _ _ hla
   have hlT:(ts.map V.ref).length=T.length:=by rw[List.length_map,hlen]
   clear hH2 hpl0 hpp hps M
   refine⟨_,rfl,l,rfl,⟨_,SqL.of hl2⟩,fun D2 hD2=>?_⟩
   refine lc_list (K:=K) (a:=l) (xs:=ts.map V.ref) (fun i H'=>∃bs:List Addr,bs.length=i∧BMk H2 H' D2 bs T.length) ⟨[],rfl,BMk.start hD2⟩ (fun i H' _ q=>SqL.of (q.elim fun _ q=>q.2.same _ _ hl2)) ?_ ?_
   ·
    rintro i x H3 hi ⟨bs,hbl,B⟩
    obtain⟨hiT,rfl,hst⟩:=tsAt i x hi
    refine⟨rfl,?_⟩
    dsimp only[tYes]
    rw[if_pos rfl]
    refine⟨(by show 1≤sizeLine;decide),fun z0 hz0=>⟨_,rfl,l,_,rfl,.inl (SqL.of (Ae.upd hz0 _ _ (B.same _ _ hl2))),z0,_,_,rfl,rfl,Ab,?_,?_,?_,fun p hp=>?_⟩⟩
    ·
     rw[hlT];omega
    ·
     rw[hlT];omega
    ·
     rw[hlT];show 1*_≤_;exact Nat.le_of_lt (AC (by omega))
    ·
     rw[hlT,Int.toNat_natCast,rep_flat]
     have B2:=B.step (Ae.upd (o:=.lst [.int 0]) hz0) hp
     refine⟨bs.map V.ref,Ae.upd hp _ _ (Ae.upd hz0 _ _ B.atD),by rw[List.length_map];exact AC (by omega),bs++[p],by rw[List.length_append,hbl];rfl,B2⟩
   ·
    rintro H3 ⟨bs,hbl,B⟩
    rw[hlT] at hbl
    have z1:∀{z:Int},z=((ts.map V.ref).length:Int)→-(2^63)≤z∧z<2^63∧[V.int 0].length*z.toNat≤sizeLine:=fun {z} e=>by
     subst e
     rw[hlT]
     refine⟨by omega,by omega,?_⟩
     show 1*_≤_;exact Nat.le_of_lt (AC (by omega))
    refine⟨(by show 1≤sizeLine;decide),fun z0 hz0=>⟨_,rfl,l,_,rfl,.inl (SqL.of (Ae.upd hz0 _ _ (B.same _ _ hl2))),z0,_,_,rfl,rfl,Ab,(z1 rfl).1,(z1 rfl).2.1,(z1 rfl).2.2,fun br hbr=>?_⟩⟩
    rw[hlT,Int.toNat_natCast,rep_flat]
    refine⟨(by show 1≤sizeLine;decide),fun z3 hz3=>⟨_,rfl,l,_,rfl,.inl (SqL.of (Ae.upd hz3 _ _ (Ae.upd hbr _ _ (Ae.upd hz0 _ _ (B.same _ _ hl2))))),z3,_,_,rfl,rfl,Ab,(z1 rfl).1,(z1 rfl).2.1,(z1 rfl).2.2,fun tg htg=>?_⟩⟩
    rw[hlT,Int.toNat_natCast,rep_flat]
    have S0:=B.done hbl (Ae.upd (o:=.lst [.int 0]) hz0) hbr (Ae.upd (o:=.lst [.int 0]) hz3) htg
    refine⟨_,rfl,l,_,rfl,SqL.of (S0.same _ _ hl2),for_enum (K:=K) (a:=l) (xs:=ts.map V.ref) (fun i σ H'=>∃(v3 v4 v9 v10 v11:Option V),σ=[some (.ref ca),some (.ref wa),some (.ref l),v3,v4,some (.ref pl),some (.ref D2),some (.ref br),some (.ref tg),v9,v10,v11]∧
      EqSt H2 H' D2 br tg bs T.length (balE r.length T (Lat c r T i)) (fun b=>(outs c.length (Lat c r T i b):Int)) (fun b=>(wsum (Lat c r T i b):Int)))
     ⟨none,none,none,none,none,rfl,S0.congr (fun a b _ _=>by simp[balE,Lat,wsum,hit]) (fun b _=>by simp[Lat,outs]) (fun b _=>by simp[Lat,wsum])⟩ (fun i σ H' _ q=>by
      obtain⟨_,_,_,_,_,_,S⟩:=q
      exact SqL.of (S.same _ _ hl2)) ?_ ?_⟩
    ·
     clear S0
     rintro i x σ H4 hi ⟨v3,v4,v9,v10,v11,rfl,S⟩ t ht
     obtain⟨hiT,rfl,hst⟩:=tsAt i x hi
     have st:Ae H4 (upd H4 t (.tup [.int ((i:Nat):Int),.ref (ts.getD i 0)])):=Ae.upd ht
     have S1:=S.keep st
     have sl:(T.getD i []).length=r.length:=by
      have hm:T.getD i []∈T:=by
       rw[List.getD_eq_getElem?_getD,List.getElem?_eq_getElem hiT];exact List.getElem_mem hiT
      exact states_mem_len r _ (O.perm.mem_iff.mp hm)
     have hc4:c.length≤4:=by have:=hF.lens;have:=hF.few;omega
     refine⟨t,_,rfl,SqT.of Ab,rfl,_,_,rfl,_,_,rfl,rfl,?_⟩
     refine⟨_,rfl,_,rfl,_,rfl,ts.getD i 0,wa,ca,T.getD i [],r,c,rfl,SqT.of (S1.same _ _ (s2 _ _ hst)),hw1.same (Ae.trans s2 S1.same),hc1.same (Ae.trans s2 S1.same),hF.lens,sl,hc4,hF.ch,fun H5 hb s5 hh=>?_⟩
     obtain⟨us,hus,hup⟩:=hh
     have S2:=S1.keep s5
     refine⟨hb,rfl,⟨_,SqL.of hus⟩,for_list (K:=K) (a:=hb) (xs:=us.map V.ref) (fun j σ H'=>∃(v9 v10 v11:Option V),σ=[some (.ref ca),some (.ref wa),some (.ref l),some (nV i),some (.ref (ts.getD i 0)),some (.ref pl),some (.ref D2),some (.ref br),some (.ref tg),v9,v10,v11]∧
       KeepR H5 H'∧EqSt H2 H' D2 br tg bs T.length (balE r.length T (Lat2 c r T i j)) (fun b=>(outs c.length (Lat2 c r T i j b):Int)) (fun b=>(wsum (Lat2 c r T i j b):Int)))
      ⟨v9,v10,v11,rfl,KeepR.refl _,by rw[Lat2_zero];exact S2⟩ (fun j σ H' _ q=>by
       obtain⟨_,_,_,_,k5,_⟩:=q
       exact SqL.of (k5.refs hus)) ?_ ?_⟩
     ·
      rintro j y σ H6 hj ⟨w9,w10,w11,rfl,k5,S6⟩
      obtain⟨t6,ht6,rfl⟩:=AL hj
      obtain⟨x,hx,hrt⟩:=AF hup ht6
      obtain⟨w6,hw1',hw2⟩:=k5.hr hrt
      have hxm:x∈hoursOf c r (T.getD i []):=List.mem_of_getElem? hx
      have hwl:x.2.length=c.length:=by
       rw[hoursZ_wid _ _ x hxm];simp[zs]
      have hmT:T.getD i []∈T:=by
       rw[List.getD_eq_getElem?_getD,List.getElem?_eq_getElem hiT];exact List.getElem_mem hiT
      obtain⟨q,hq,eq⟩:=getD_of (next_mem hF O hmT hxm)
      have hlc:=hF.lens
      refine⟨t6,_,rfl,SqT.of hw1',rfl,_,_,rfl,_,_,rfl,rfl,?_⟩
      refine⟨_,rfl,_,rfl,_,rfl,ts.getD i 0,w6,T.getD i [],x.2,rfl,SqT.of (S6.same _ _ (s2 _ _ hst)),SqT.of hw2,by omega,by omega,fun H7 t7 s7 ht7=>?_⟩
      have S7:=S6.keep s7
      rw[after_next hF sl hxm,←eq,←keyOf_kV] at ht7
      refine⟨pl,nV q,rfl,by rw[←plc_val (ts:=ts) nd hq];exact DGet.t (S7.same _ _ hdt) ht7,?_⟩
      have hbi:i<bs.length:=by omega
      have hbq:q<bs.length:=by omega
      have il:∀{g:Nat→Int},ixN ((rowL T.length g).map V.int).length ((i:Nat):Int)=some i:=fun {g}=>by rw[List.length_map,rowL_len];exact ixN_nat hiT
      refine⟨_,rfl,_,rfl,D2,_,_,_,rfl,rfl,SqL.of S7.atD,bs_ix hbi,_,rfl,bs.getD i 0,_,_,_,rfl,rfl,SqL.of (S7.mat i hiT),rowL_ix hiT,_,rfl,_,_,rfl,rfl,bs.getD i 0,_,_,i,rfl,rfl,S7.mat i hiT,il,?_⟩
      obtain⟨S8,k8⟩:=S7.aM hiT i (balE r.length T (Lat2 c r T i j) i i+((x.1:Nat):Int))
      have w8:=k8.tup (s7 _ _ hw2)
      refine⟨_,rfl,_,rfl,D2,_,_,_,rfl,rfl,SqL.of S8.atD,bs_ix hbq,_,rfl,bs.getD q 0,_,_,_,rfl,rfl,SqL.of (S8.mat q hq),rowL_ix hiT,_,rfl,_,_,rfl,rfl,bs.getD q 0,_,_,i,rfl,rfl,S8.mat q hq,il,?_⟩
      obtain⟨S9,k9⟩:=S8.aM hq i ((if q=i then (if i=i then balE r.length T (Lat2 c r T i j) i i+((x.1:Nat):Int) else balE r.length T (Lat2 c r T i j) i i) else balE r.length T (Lat2 c r T i j) q i)-((x.1:Nat):Int))
      refine⟨_,rfl,_,rfl,br,_,_,_,rfl,rfl,SqL.of S9.atB,rowL_ix hiT,_,rfl,_,rfl,_,rfl,w6,_,_,_,rfl,rfl,SqT.of (k9.tup w8),last_bV (by omega),_,_,rfl,rfl,?_,_,_,rfl,rfl,br,_,_,i,rfl,rfl,S9.atB,il,?_⟩
      ·
       refine .inr ?_
       unfold bi
       split<;>constructor<;>omega
      obtain⟨S10,k10⟩:=S9.aB hpos i ((outs c.length (Lat2 c r T i j i):Int)+((x.1:Nat):Int)*bi (x.2.getD (x.2.length-1) false))
      refine⟨_,rfl,_,rfl,tg,_,_,_,rfl,rfl,SqL.of S10.atT,rowL_ix hiT,_,rfl,_,_,rfl,rfl,tg,_,_,i,rfl,rfl,S10.atT,il,?_⟩
      obtain⟨S11,k11⟩:=S10.aT hpos i ((wsum (Lat2 c r T i j i):Int)+((x.1:Nat):Int))
      refine⟨_,_,_,rfl,KeepR.trans k5 (KeepR.trans (KeepR.of s7) (KeepR.trans k8 (KeepR.trans k9 (KeepR.trans k10 k11)))),S11.congr (fun a b ha hb=>?_) (fun b hb=>?_) (fun b hb=>?_)⟩
      ·
       rw[Lat2_step hx]
       exact bal_four nd hq eq.symm a b ha _ rfl
      ·
       rw[Lat2_step hx]
       unfold put
       by_cases z:b=i
       ·
        subst z
        rw[if_pos rfl,if_pos rfl,outs_snoc,hwl]
        unfold bi
        split<;>simp
       ·
        rw[if_neg z,if_neg z]
      ·
       rw[Lat2_step hx]
       unfold put
       by_cases z:b=i
       ·
        subst z
        rw[if_pos rfl,if_pos rfl,wsum_snoc];omega
       ·
        rw[if_neg z,if_neg z]
     ·
      rintro σ H6 ⟨w9,w10,w11,rfl,k5,S6⟩
      rw[List.length_map,hup.length,Lat2_full] at S6
      exact⟨_,_,_,_,_,rfl,S6⟩
    ·
     rintro σ H4 ⟨v3,v4,v9,v10,v11,rfl,S⟩
     rw[hlT] at S
     have hbN:0<bs.length:=by omega
     refine⟨_,rfl,_,rfl,_,rfl,D2,_,rfl,SqL.of S.atD,fun p hp=>⟨_,rfl,_,rfl,(by show 2≤sizeLine;decide),fun z hz=>⟨p,z,_,_,rfl,rfl,Ae.upd hz _ _ Ab,Ab,?_,fun l' hl'=>?_⟩⟩⟩
     ·
      rw[cut_last,List.length_dropLast,List.length_map]
      exact Nat.le_of_lt (AC (by show bs.length-1+2≤1000;omega))
     ·
      rw[cut_last]
      have s4:Ae H4 (upd (upd (upd H4 p (.lst ((bs.map V.ref).dropLast))) z (.lst [.ref br,.ref tg])) l' (.lst ((bs.map V.ref).dropLast++[.ref br,.ref tg]))):=
       Ae.trans (Ae.upd (by exact hp)) (Ae.trans (Ae.upd (by rw[cut_last] at hz;exact hz)) (Ae.upd (by rw[cut_last] at hl';exact hl')))
      have sAll:=Ae.trans s2 (Ae.trans S.same s4)
      refine k _ _ T O (A8.trans sT (A8.of sAll)) (tb1.same sAll) ⟨bs.dropLast++[br,tg],?_,?_⟩
      ·
       rw[Ab,List.map_append,List.map_dropLast];rfl
      ·
       have S':=S.keep s4
       rw[←rows_done hF.ch hpos (Lat c r T T.length) (fun b hb=>by unfold Lat;rw[if_pos hb])]
       refine paired_append (paired_ix ?_ fun i a b ha hb=>?_) (.cons S'.atB (.cons S'.atT .nil))
       ·
        rw[List.length_dropLast,List.length_dropLast,List.length_map,List.length_range,hbl]
       ·
        rw[List.getElem?_dropLast] at ha hb
        split at ha
        ·
         rename_i hi1
         have hiT:i<T.length:=by omega
         split at hb
         ·
          rw[List.getElem?_map,List.getElem?_range hiT] at hb
          have eb:=(Option.some.inj hb).symm
          subst eb
          have ea:bs.getD i 0=a:=by rw[List.getD_eq_getElem?_getD,ha];rfl
          show _=_
          rw[←ea];exact S'.mat i hiT
         ·
          exact absurd hb (by simp)
        ·
         exact absurd ha (by simp)
end
end Wk
namespace L2
open PySem PySem.Spec PyProof.Rows
theorem lc_zip {K:PySem.W.Frag}{a b:Addr}{xs ys:List V}{g:TG}{tt:TT}{te:TE}{vs:List Nat}{σ:St}{H1:Hp}{D:Addr}{Qd:Hp→Prop}(Pv:Nat→Hp→Prop)(h0:Pv 0 (upd H1 D (.lst [])))(hlen:xs.length=ys.length)(hl:∀i H,i≤xs.length→Pv i H→SqL K H a xs∧SqL K H b ys)
  (hs:∀i x y H,xs[i]?=some x→ys[i]?=some y→Pv i H→∀T,H T=none→g (.ref T) (wipe σ vs) (upd H T (.tup [x,y])) fun σ2 H2=>wipe σ2 vs=wipe σ vs∧tt σ2 H2 fun b H3=>
   if b=true then te σ2 H3 fun y H4=>∃acc,H4 D=some (.lst acc)∧acc.length<sizeLine∧Pv (i+1) (upd H4 D (.lst (acc++[y]))) else Pv (i+1) H3)(hd:∀H,Pv xs.length H→Qd H):
  ∃W:Nat→Nat→Hp→Prop,(∃m,W 0 m (upd H1 D (.lst [])))∧∀i m H,W i m H→
   ((
    Itz K a b).stop i H∧Qd H)∨((Itz K a b).go i H∧∃Nx:Hp→Prop,(∀H',Nx H'→∃m',m'<m∧W (i+1) m' H')∧∀x H',(Itz K a b).yld i H x H'→g x (wipe σ vs) H' fun σ2 H2=>wipe σ2 vs=wipe σ vs∧tt σ2 H2 fun b H3=>
    if b=true then te σ2 H3 fun y H4=>∃acc,H4 D=some (.lst acc)∧acc.length<sizeLine∧Nx (upd H4 D (.lst (acc++[y]))) else Nx H3):=by
 refine⟨fun i m H=>m=xs.length-i∧i≤xs.length∧Pv i H,⟨xs.length,by simp,Nat.zero_le _,h0⟩,?_⟩
 rintro i m H ⟨rfl,hi,p⟩
 obtain⟨q,q2⟩:=hl i H hi p
 by_cases hlt:i<xs.length
 ·
  refine .inr ⟨⟨xs,ys,xs[i],ys[i],q,q2,by simp[hlt],by simp[hlen▸hlt]⟩,Pv (i+1),fun H' p'=>⟨xs.length-(i+1),by omega,rfl,hlt,p'⟩,fun x H' y=>?_⟩
  obtain⟨T,z,z2,rfl,hT,rfl,y1,y2⟩:=y
  exact hs i z z2 _ (y1 xs q) (y2 ys q2) p T hT
 ·
  have e:i=xs.length:=by omega
  subst e
  exact .inl ⟨⟨xs,ys,q,q2,.inl (Nat.le_refl _)⟩,hd H p⟩
end L2
namespace Wk
open PySem PySem.Spec PyProof.Rows L2 Rb
section
variable {P:Program}{w:World}{K:PySem.W.Frag}{mg:Str→Option Value}{base:Heap}
set_option exponentiation.threshold 3000 in
theorem big2000:BIG<2^2000:=by decide +kernel
theorem map_int_at {l:List Int}{i:Nat}{y:V}(h:(l.map V.int)[i]?=some y):i<l.length∧y=.int (l.getD i 0):=by
 rw[List.getElem?_map] at h
 cases e:l[i]? with
 | none=>rw[e] at h;cases h
 |
  some z=>
  rw[e] at h
  obtain⟨hi,_⟩:=List.getElem?_eq_some_iff.mp e
  refine⟨hi,?_⟩
  rw[List.getD_eq_getElem?_getD,e]
  exact (Option.some.inj h).symm
theorem getD_memI {l:List Int}{i:Nat}(h:i<l.length):l.getD i 0∈l:=by
 rw[List.getD_eq_getElem?_getD,List.getElem?_eq_getElem h];exact List.getElem_mem h
def spAtM (K:PySem.W.Frag):Sp:=fun vs H Q _=>∃(na:Addr) (l:List Int) (sc me:Int),vs=[.ref na,.int sc,.int me]∧SqL K H na (l.map V.int)∧l.length≤1000∧sc≠0∧sc.natAbs<BIG∧me.natAbs<BIG∧(∀y∈l,y.natAbs<BIG)∧
 ∀(H':Hp) (D:Addr),Ae H H'→H' D=some (.lst ((atM l sc me).map V.int))→Q (.ref D) H'
theorem scAtM:Aq ["numbers","scale","measure","number"] ["numbers","scale","measure"] (Ag sAtM):=⟨rfl,rfl,rfl,by decide +kernel,rfl,by decide +kernel,by decide +kernel⟩
theorem ok_atM {f:Addr}{fd:FuncData}(F:Fun K "at_measure" "at_measure" sAtM f fd):Ah P w K mg base CX0 1 f fd ["numbers","scale","measure"] (spAtM K):=by
 refine F.ok scAtM (fun vs H Q E h=>?_) (fun cdv A outer s H vs Q E hr h=>?_)
 ·
  obtain⟨na,l,sc,me,rfl,_⟩:=h
  rfl
 ·
  obtain⟨na,l,sc,me,rfl,hl,h1000,hsc,hsb,hmb,hlb,k⟩:=h
  have hB:=big2000
  refine⟨_,Af (Al (pe_lc (own:=[("number",3)]) (g:=gName 3) rfl scAtM.nd (A1 (pv 0)) (A5 (by show blkC ["numbers","scale","measure","number"] (Ag sAtM) _ _=true;decide +kernel))
   (fun _ _ _ _ _=>Au (i:=3) scAtM.nd rfl (Or.inl rfl) (.inr rfl)) (fun _ _ _ _ _=>pts_nil)
   (fun _ _ _ _ _=>AH op_fdivB (AH op_mulB (pv 3) (pv 2)) (pv 1)))),?_⟩
  refine⟨_,rfl,na,rfl,⟨_,hl⟩,fun D hD=>?_⟩
  refine lc_list (K:=K) (a:=na) (xs:=l.map V.int) (fun i H'=>Ae H H'∧H' D=some (.lst (((atM l sc me).map V.int).take i))) ⟨Ae.upd hD,Ab⟩ (fun i H' _ q=>Ae.seq q.1 hl) ?_ ?_
  ·
   rintro i x H' hi ⟨sm,hDi⟩
   obtain⟨hlt,rfl⟩:=map_int_at hi
   refine⟨rfl,?_⟩
   dsimp only[tYes]
   rw[if_pos rfl]
   have hy:=hlb _ (getD_memI hlt)
   refine⟨_,rfl,_,rfl,_,_,rfl,rfl,⟨by omega,by omega⟩,_,rfl,_,_,rfl,rfl,⟨hsc,by omega⟩,?_⟩
   refine⟨_,hDi,?_,?_,?_⟩
   ·
    rw[List.length_take];exact AC (by omega)
   ·
    exact fun b o e=>by rw[Ai (Aj e hD)];exact sm _ _ e
   ·
    rw[Ab,AJ (x:=V.int (Int.fdiv (l.getD i 0*me) sc))]
    unfold atM
    rw[List.getElem?_map,List.getElem?_map,List.getElem?_eq_getElem hlt,List.getD_eq_getElem?_getD,List.getElem?_eq_getElem hlt];rfl
  ·
   rintro H' ⟨sm,hDi⟩
   have hlen:((atM l sc me).map V.int).length=l.length:=by simp[atM]
   rw[List.length_map,←hlen,List.take_length] at hDi
   exact k _ D sm hDi
def RowS (H:Hp)(t:Addr)(x:List Int×Int):Prop:=x.1≠[]∧∃na,H t=some (.tup [.ref na,.int x.2])∧H na=some (.lst (x.1.map V.int))
def spWoF (K:PySem.W.Frag):Sp:=fun vs H Q _=>∃(na ta:Addr) (l tk:List Int) (sc:Int),vs=[.ref na,.int sc,.ref ta]∧SqL K H na (l.map V.int)∧SqL K H ta (tk.map V.int)∧l.length=tk.length∧2≤l.length∧l.length≤1000∧sc≠0∧sc.natAbs<BIG∧(∀y∈l,y.natAbs<BIG)∧(∀y∈tk,y.natAbs<BIG)∧
 ∀(H':Hp) (t:Addr),Ae H H'→RowS H' t (woF l sc tk)→Q (.ref t) H'
theorem scWoF:Aq ["numbers","scale","taking","share","pivot","left","own","other"] ["numbers","scale","taking"] (Ag sWoF):=⟨rfl,rfl,rfl,by decide +kernel,rfl,by decide +kernel,by decide +kernel⟩
theorem cut_first (xs:List V):cutV xs (some 1) none=xs.tail:=by
 unfold cutV
 have h1:HT.sIx xs.length 0 (some 1)=min 1 xs.length:=HT.sIx_nat xs.length 0 1
 have h2:HT.sIx xs.length xs.length none=xs.length:=rfl
 rw[h1,h2]
 cases xs with
 | nil=>rfl
 |
  cons x xs=>
  have:min 1 (x::xs).length=1:=by simp
  rw[this];simp
theorem int_ix0 {l:List Int}(h:0<l.length):atI (l.map V.int) 0=some (.int (l.headD 0)):=by
 cases l with
 | nil=>simp at h
 | cons x l=>exact atI_nat (j:=0) rfl
theorem ok_woF {f:Addr}{fd:FuncData}(F:Fun K "without_first" "without_first" sWoF f fd)(mgZ:mg "zip"=none):Ah P w K mg base CX0 1 f fd ["numbers","scale","taking"] (spWoF K):=by
 refine F.ok scWoF (fun vs H Q E h=>?_) (fun cdv A outer s H vs Q E hr h=>?_)
 ·
  obtain⟨na,ta,l,tk,sc,rfl,_⟩:=h
  rfl
 ·
  obtain⟨na,ta,l,tk,sc,rfl,hl,ht,hlt,h2,h1000,hsc,hsb,hlb,htb,k⟩:=h
  have hB:=big2000
  refine⟨_,Ad (As (i:=3) scWoF.nd rfl (Or.inr rfl) (AK AI (pv 0) Ao (fun _ _=>rfl)))<|
   Ad (AN (AB op_eq (pv 3) Ao (AA _)) (Af (Al (A6 (Aa (pe_slice sl_list (pv 0) (po_some Ao) po_none) (Aa (pv 1) Ac))))) Ax)<|
   Ad (As (i:=4) scWoF.nd rfl (Or.inr rfl) (AK AI (pv 2) Ao (fun _ _=>rfl)))<|
   Ad (ps_setLc (i:=5) (own:=[("own",6),("other",7)]) (g:=gTup K 2 (gCons (gName 6) (gCons (gName 7) gNil))) rfl scWoF.nd rfl rfl (sw_true rfl rfl rfl rfl) (pi_zip rfl mgZ (Aa (pe_slice sl_list (pv 0) (po_some Ao) po_none) (Aa (pe_slice sl_list (pv 2) (po_some Ao) po_none) Ac)))
    (A5 (by show blkC ["numbers","scale","taking","share","pivot","left","own","other"] (Ag sWoF) _ _=true;decide +kernel))
    (fun _ _ _ _ _=>pg_tup rfl (AS (Au (i:=6) scWoF.nd rfl (Or.inl rfl) (.inr rfl)) (AS (Au (i:=7) scWoF.nd rfl (Or.inl rfl) (.inr rfl)) pgs_nil))) (fun _ _ _ _ _=>pts_nil)
    (fun _ _ _ _ _=>AH op_fdivB (AH op_sub (AH op_mulB (pv 4) (pv 6)) (AH op_mulB (pv 3) (pv 7))) (pv 1)))<|
   Af (Al (A6 (Aa (pv 5) (Aa (pv 4) Ac)))),?_⟩
  refine⟨_,rfl,na,_,_,_,rfl,rfl,hl,int_ix0 (by omega),?_⟩
  refine⟨_,rfl,rfl,_,rfl,?_⟩
  by_cases e:l.headD 0=0
  ·
   have hb:decide (V.int (l.headD 0)=V.int 0)=true:=decide_eq_true (congrArg V.int e)
   rw[hb]
   refine AY ?_
   refine⟨_,rfl,_,rfl,na,_,rfl,hl,fun p hp=>⟨_,rfl,(by show 2≤sizeLine;decide),fun t ht'=>?_⟩⟩
   rw[cut_first]
   have sm:Ae H (upd (upd H p (.lst (l.map V.int).tail)) t (.tup [.ref p,.int sc])):=Ae.trans (Ae.upd hp) (Ae.upd (by rw[cut_first] at ht';exact ht'))
   refine k _ t sm ?_
   unfold woF
   rw[if_pos e]
   refine⟨fun z=>?_,p,Ab,Ae.upd (by rw[cut_first] at ht';exact ht') _ _ (by rw[Ab,List.map_tail])⟩
   have:=congrArg List.length z
   rw[List.length_tail] at this
   simp at this;omega
  ·
   have hb:decide (V.int (l.headD 0)=V.int 0)=false:=decide_eq_false (fun z=>e (V.int.inj z))
   rw[hb]
   refine A3 ?_
   refine⟨_,rfl,ta,_,_,_,rfl,rfl,ht,int_ix0 (by omega),?_⟩
   refine⟨_,rfl,_,rfl,na,_,rfl,hl,fun p hp=>?_⟩
   rw[cut_first,←List.map_tail]
   refine⟨_,rfl,_,rfl,ta,_,rfl,Ae.seq (Ae.upd hp) ht,fun q hq=>?_⟩
   rw[cut_first,←List.map_tail]
   obtain⟨res,hres⟩:∃res:List Int,res=(l.tail.zip tk.tail).map fun p=>Int.fdiv (tk.headD 0*p.1-l.headD 0*p.2) sc:=⟨_,rfl⟩
   have hrl:res.length=l.length-1:=by rw[hres,List.length_map,List.length_zip,List.length_tail,List.length_tail];omega
   have hxl:(l.tail.map V.int).length=(tk.tail.map V.int).length:=by rw[List.length_map,List.length_map,List.length_tail,List.length_tail];omega
   have sq:Ae H (upd (upd H p (.lst (l.tail.map V.int))) q (.lst (tk.tail.map V.int))):=Ae.trans (Ae.upd hp) (Ae.upd hq)
   have atp:(upd (upd H p (.lst (l.tail.map V.int))) q (.lst (tk.tail.map V.int))) p=some (.lst (l.tail.map V.int)):=Ae.upd hq _ _ Ab
   have atq:(upd (upd H p (.lst (l.tail.map V.int))) q (.lst (tk.tail.map V.int))) q=some (.lst (tk.tail.map V.int)):=Ab
   generalize (upd (upd H p (.lst (l.tail.map V.int))) q (.lst (tk.tail.map V.int)))=Hq at sq atp atq ⊢
   refine⟨p,q,_,_,rfl,SqL.of atp,SqL.of atq,fun D hD=>?_⟩
   refine lc_zip (K:=K) (a:=p) (b:=q) (xs:=l.tail.map V.int) (ys:=tk.tail.map V.int) (fun i H'=>Ae Hq H'∧H' D=some (.lst ((res.map V.int).take i))) ⟨Ae.upd hD,Ab⟩ hxl (fun i H' _ z=>⟨SqL.of (z.1 _ _ atp),SqL.of (z.1 _ _ atq)⟩) ?_ ?_
   ·
    rintro i x y H' hx hy ⟨sm,hDi⟩ t ht'
    obtain⟨hi1,rfl⟩:=map_int_at hx
    obtain⟨hi2,rfl⟩:=map_int_at hy
    have st:Ae H' (upd H' t (.tup [.int (l.tail.getD i 0),.int (tk.tail.getD i 0)])):=Ae.upd ht'
    refine⟨t,_,rfl,SqT.of Ab,rfl,_,_,rfl,_,_,rfl,rfl,rfl,?_⟩
    dsimp only[tYes]
    rw[if_pos rfl]
    have b1:=hlb _ (List.mem_of_mem_tail (getD_memI hi1))
    have b2:=htb _ (List.mem_of_mem_tail (getD_memI hi2))
    have b3:(l.headD 0).natAbs<BIG:=by rw[headD_getD];exact hlb _ (getD_memI (by omega))
    have b4:(tk.headD 0).natAbs<BIG:=by rw[headD_getD];exact htb _ (getD_memI (by omega))
    refine⟨_,rfl,_,rfl,_,_,rfl,rfl,⟨by omega,by omega⟩,_,rfl,_,rfl,_,_,rfl,rfl,⟨by omega,by omega⟩,_,_,rfl,rfl,_,rfl,_,_,rfl,rfl,⟨hsc,by omega⟩,?_⟩
    refine⟨_,st _ _ hDi,?_,?_,?_⟩
    ·
     rw[List.length_take];exact AC (by rw[List.length_map,hrl];omega)
    ·
     exact fun b o e=>by rw[Ai (Aj e hD)];exact st _ _ (sm _ _ e)
    ·
     rw[Ab,AJ (x:=V.int (Int.fdiv (tk.headD 0*l.tail.getD i 0-l.headD 0*tk.tail.getD i 0) sc))]
     rw[hres,List.getElem?_map,List.getElem?_map,List.getElem?_eq_getElem (by rw[List.length_zip];omega),List.getElem_zip,
      List.getD_eq_getElem?_getD,List.getD_eq_getElem?_getD,List.getElem?_eq_getElem hi1,List.getElem?_eq_getElem hi2];rfl
   ·
    rintro H' ⟨sm,hDi⟩
    have hlen:(res.map V.int).length=(l.tail.map V.int).length:=by rw[List.length_map,List.length_map,List.length_tail,hrl]
    rw[←hlen,List.take_length] at hDi
    refine⟨_,rfl,_,rfl,(by show 2≤sizeLine;decide),fun t ht'=>k _ t (Ae.trans sq (Ae.trans sm (Ae.upd ht'))) ?_⟩
    unfold woF
    rw[if_neg e,←hres]
    refine⟨fun z=>?_,D,Ab,Ae.upd ht' _ _ hDi⟩
    have hz:res=[]:=z
    rw[hz] at hrl
    simp at hrl;omega
end
end Wk
namespace Wk
open PySem PySem.Spec PyProof.Rows L2 Rb
def KeepI (H H':Hp):Prop:=∀b o,H b=some o→(∀ts:List Addr,o≠.lst (ts.map V.ref))→H' b=some o
theorem KeepI.of {H H':Hp}(s:Ae H H'):KeepI H H':=fun b o e _=>s b o e
theorem KeepI.upd {H:Hp}{p:Addr}{ts:List Addr}{o:HO}(hp:H p=some (.lst (ts.map V.ref))):KeepI H (upd H p o):=fun b u e h=>by
 rw[Ai (fun z=>by rw[z,hp] at e;exact h ts (Option.some.inj e).symm)];exact e
theorem ints_refs {row:List Int}{ts:List Addr}(h:row≠[]):HO.lst (row.map V.int)≠.lst (ts.map V.ref):=fun e=>by
 cases row with
 | nil=>exact h rfl
 |
  cons x row=>
  cases ts with
  | nil=>simp at e
  | cons t ts=>simp at e
theorem RowS.keep {H H':Hp}(k:KeepI H H'){t:Addr}{x:List Int×Int}(h:RowS H t x):RowS H' t x:=by
 obtain⟨h0,na,h1,h2⟩:=h
 exact⟨h0,na,k _ _ h1 (fun ts e=>by cases e),k _ _ h2 fun ts=>ints_refs h0⟩
theorem RowS.same {H H':Hp}(s:Ae H H'){t:Addr}{x:List Int×Int}(h:RowS H t x):RowS H' t x:=h.keep (KeepI.of s)
theorem growS {H0 H1 H2:Hp}{g t:Addr}{l:List (List Int×Int)}{x:List Int×Int}(M:GMk RowS H0 H1 g l)(s:Ae H1 H2)(ht:RowS H2 t x)(hl:l.length<1000):
  ∃gs:List V,H2 g=some (.lst gs)∧gs.length<sizeLine∧GMk RowS H0 (upd H2 g (.lst (gs++[.ref t]))) g (l++[x]):=by
 obtain⟨ts,h1,h2⟩:=M.at_
 have e2:=s _ _ h1
 have kI:KeepI H2 (upd H2 g (.lst (ts.map V.ref++[.ref t]))):=KeepI.upd e2
 refine⟨ts.map V.ref,e2,by rw[List.length_map,h2.length];exact AC (by omega),⟨fun b o e=>?_,M.new,ts++[t],by rw[Ab,List.map_append];rfl,Paired.snoc (Paired.mapP h2 fun t' y q=>(q.same s).keep kI) (ht.keep kI)⟩⟩
 rw[Ai (Aj e M.new)];exact s _ _ (M.same _ _ e)
section
variable {P:Program}{w:World}{K:PySem.W.Frag}{mg:Str→Option Value}{base:Heap}
abbrev nLast:List Str:=["rows","scaled","measure","taking","numbers","scale"]
theorem scLast:Aq nLast ["rows"] (Ag sLast):=⟨rfl,rfl,rfl,by decide +kernel,rfl,by decide +kernel,by decide +kernel⟩
def spLast (K:PySem.W.Frag):Sp:=fun vs H Q _=>∃(ra:Addr) (rows:List (List Int)) (n:Nat),vs=[.ref ra]∧RowsAt H ra rows∧Sys n (Qf rows)∧rows.length=n+1∧(∀r∈rows,r.length=n)∧(∀r∈rows,∀y∈r,y.natAbs≤10000)∧
 ∀(H':Hp) (l:Addr) (l0 l1:Int),Ae H H'→H' l=some (.lst [.int l0,.int l1])→(l0:Rat)=minor (Qf rows) (n-1) (Qf rows (n-1)) (n-1)→(l1:Rat)=minor (Qf rows) (n-1) (Qf rows (n-1+1)) (n-1)→
  l0.natAbs<BIG→l1.natAbs<BIG→Q (.ref l) H'
def muLast:L2.St→Hp→Nat:=fun σ H=>match σ with
 |
  [_,some (.ref a),_,_,_,_]=>(match H a with
  | some (.lst xs)=>xs.length
  | _=>0)
 | _=>0
theorem refs_ix0 {ts:List Addr}(h:0<ts.length):atI (ts.map V.ref) 0=some (.ref (ts.getD 0 0)):=bs_ix (i:=0) h
theorem paired_getD {H:Hp}{ts:List Addr}{l:List (List Int×Int)}(h:Paired (RowS H) ts l){i:Nat}(hi:i<l.length):RowS H (ts.getD i 0) (l.getD i ([],1)):=by
 have hl:=h.length
 have e1:ts[i]?=some (ts.getD i 0):=by rw[List.getD_eq_getElem?_getD,List.getElem?_eq_getElem (by omega)];rfl
 obtain⟨x,hx,q⟩:=AF h e1
 have e2:l.getD i ([],1)=x:=by rw[List.getD_eq_getElem?_getD,hx];rfl
 rw[e2];exact q
theorem tailD {ts:List Addr}{i:Nat}{y:V}(h:(ts.map V.ref).tail[i]?=some y):i+1<ts.length∧y=.ref (ts.getD (i+1) 0):=by
 rw[List.getElem?_tail] at h
 obtain⟨t,ht,rfl⟩:=AL h
 obtain⟨h1,_⟩:=List.getElem?_eq_some_iff.mp ht
 exact⟨h1,by rw[List.getD_eq_getElem?_getD,ht];rfl⟩
theorem ok_last {f fM fW:Addr}{fd fdM fdW:FuncData}(F:Fun K "last_two_left" "last_two_left" sLast f fd)(FM:Fun K "at_measure" "at_measure" sAtM fM fdM)(bM:An K fdM ["numbers","scale","measure"] [])(mgM:mg "at_measure"=some (.ref fM))
  (FW:Fun K "without_first" "without_first" sWoF fW fdW)(bW:An K fdW ["numbers","scale","taking"] [])(mgW:mg "without_first"=some (.ref fW))(mgZ:mg "zip"=none)(mgL:mg "len"=none):
  Ah P w K mg base CX0 2 f fd ["rows"] (spLast K):=by
 have GM:Ah P w K mg base CX0 1 fM fdM ["numbers","scale","measure"] (spAtM K):=ok_atM FM
 have GW:Ah P w K mg base CX0 1 fW fdW ["numbers","scale","taking"] (spWoF K):=ok_woF FW mgZ
 refine F.ok scLast (fun vs H Q E h=>?_) (fun cdv A outer s H vs Q E hr h=>?_)
 ·
  obtain⟨ra,rows,n,rfl,_⟩:=h
  rfl
 ·
  obtain⟨ra,rows,n,rfl,hra,S,hrl,hrn,hrb,k⟩:=h
  refine⟨_,Ad (ps_setLc (i:=1) (own:=[("numbers",4)]) (g:=gName 4) rfl scLast.nd rfl rfl (sw_true rfl rfl rfl rfl) (A1 (pv 0)) (A5 (by show blkC nLast (Ag sLast) _ _=true;decide +kernel))
    (fun _ _ _ _ _=>Au (i:=4) scLast.nd rfl (Or.inl rfl) (.inr rfl)) (fun _ _ _ _ _=>pts_nil) (fun _ _ _ _ _=>A6 (Aa (pv 4) (Aa Ao Ac))))<|
   Ad (As (i:=2) scLast.nd rfl (Or.inr rfl) Ao)<|
   Ad (ps_while PassesOwn.never (AB op_gt (Az (r:=rLenA K) At rfl mgL PySem.boot_len (Aa (pv 1) Ac)) Ao (AA _))<|
    Ad (As (i:=3) scLast.nd rfl (Or.inr rfl) (Aw GM hr rfl mgM FM.kp bM .nil Ap (Aa (AK ix_tup (AK AI (pv 1) Ao (fun _ _=>rfl)) Ao (fun _ _=>rfl)) (Aa (AK ix_tup (AK AI (pv 1) Ao (fun _ _=>rfl)) Ao (fun _ _=>rfl)) (Aa (pv 2) Ac)))))<|
    Ad (ps_setLc (i:=1) (own:=[("numbers",4),("scale",5)]) (g:=gTup K 2 (gCons (gName 4) (gCons (gName 5) gNil))) rfl scLast.nd rfl rfl (sw_true rfl rfl rfl rfl) (A1 (pe_slice sl_list (pv 1) (po_some Ao) po_none)) (A5 (by show blkC nLast (Ag sLast) _ _=true;decide +kernel))
     (fun _ _ _ _ _=>pg_tup rfl (AS (Au (i:=4) scLast.nd rfl (Or.inl rfl) (.inr rfl)) (AS (Au (i:=5) scLast.nd rfl (Or.inl rfl) (.inr rfl)) pgs_nil))) (fun _ _ _ _ _=>pts_nil)
     (fun _ _ _ _ _=>Aw GW hr rfl mgW FW.kp bW .nil Ap (Aa (pv 4) (Aa (pv 5) (Aa (pv 3) Ac)))))<|
    Af (As (i:=2) scLast.nd rfl (Or.inr rfl) (AK AI (pv 3) Ao (fun _ _=>rfl))))<|
   Af (Al (pe_lc (own:=[("numbers",4),("scale",5)]) (g:=gTup K 2 (gCons (gName 4) (gCons (gName 5) gNil))) rfl scLast.nd (A1 (pv 1)) (A5 (by show blkC nLast (Ag sLast) _ _=true;decide +kernel))
    (fun _ _ _ _ _=>pg_tup rfl (AS (Au (i:=4) scLast.nd rfl (Or.inl rfl) (.inr rfl)) (AS (Au (i:=5) scLast.nd rfl (Or.inl rfl) (.inr rfl)) pgs_nil))) (fun _ _ _ _ _=>pts_nil)
    (fun _ _ _ _ _=>AK (r:=rIxL K) AI (Aw GM hr rfl mgM FM.kp bM .nil Ap (Aa (pv 4) (Aa (pv 5) (Aa (pv 2) Ac)))) Ao (fun _ _=>rfl)))),?_⟩
  obtain⟨ts0,hla,hpp⟩:=hra
  have hS1:=S.pos
  have hS2:=S.few
  refine⟨_,rfl,ra,rfl,⟨_,SqL.of hla⟩,fun D hD=>?_⟩
  refine lc_list (K:=K) (a:=ra) (xs:=ts0.map V.ref) (fun i H'=>GMk RowS H H' D ((rows.take i).map fun r=>(r,(1:Int)))) (GMk.start (Ae.refl _) hD) (fun i H' _ M=>SqL.of (M.same _ _ hla)) ?_ ?_
  ·
   rintro i x H' hi M
   obtain⟨t,ht,rfl⟩:=AL hi
   obtain⟨row,hrow,hrt⟩:=AF hpp ht
   refine⟨rfl,?_⟩
   dsimp only[tYes]
   rw[if_pos rfl]
   refine⟨_,rfl,(by show 2≤sizeLine;decide),fun q hq=>?_⟩
   have hm:=List.mem_of_getElem? hrow
   have hne:row≠[]:=fun z=>by
    have:=hrn _ hm
    rw[z] at this;simp at this;omega
   obtain⟨gs,a1,a2,a3⟩:=growS (t:=q) (x:=(row,1)) M (Ae.upd (o:=.tup [.ref t,.int 1]) hq) ⟨hne,t,Ab,Ae.upd hq _ _ (M.same _ _ hrt)⟩ (by rw[List.length_map,List.length_take];omega)
   refine⟨gs,a1,a2,?_⟩
   rw[AJ hrow,List.map_append];exact a3
  ·
   rintro H1 M
   rw[List.length_map,hpp.length,List.take_length] at M
   refine while_by (fun σ H'=>∃(a:Addr) (l:List (List Int×Int)) (me:Int) (kk:Nat) (v3 v4 v5:Option V),σ=[some (.ref ra),some (.ref a),some (.int me),v3,v4,v5]∧Ae H H'∧LstAt RowS H' a l∧Stg (Qf rows) n kk l me) muLast
    ⟨D,_,1,0,none,none,none,rfl,M.same,M.at_,stg_start rows S hrl hrn hrb⟩ ?_ ?_
   ·
    rintro σ H2 ⟨a,l,me,kk,v3,v4,v5,rfl,s2,⟨ts,hts,hpt⟩,G⟩
    have hl:=hpt.length
    have hgl:=G.len
    have hle:=G.le
    refine⟨_,rfl,a,_,rfl,.inl (SqL.of hts),_,_,rfl,rfl,_,rfl,?_⟩
    rw[List.length_map,hl]
    by_cases e:2<l.length
    ·
     have hb:decide ((2:Int)<(l.length:Int))=true:=by simp;omega
     rw[hb]
     refine AY ?_
     have R0:=G.rows 0 (by omega)
     obtain⟨a1,a2,a3⟩:=atM_ok S hle R0 G.meq
     obtain⟨hne0,na,h01,h02⟩:=paired_getD hpt (i:=0) (by omega)
     obtain⟨tk,htk⟩:∃tk,tk=atM (l.getD 0 ([],1)).1 (l.getD 0 ([],1)).2 me:=⟨_,rfl⟩
     have GS:=stg_step S G e
     rw[←htk] at a1 a3 GS
     refine⟨_,rfl,a,_,_,_,rfl,rfl,SqL.of hts,refs_ix0 (by omega),ts.getD 0 0,_,_,_,rfl,rfl,SqT.of h01,rfl,_,rfl,a,_,_,_,rfl,rfl,SqL.of hts,refs_ix0 (by omega),ts.getD 0 0,_,_,_,rfl,rfl,SqT.of h01,rfl,_,rfl,na,_,_,me,rfl,SqL.of h02,by have:=R0.len;omega,R0.sc,R0.sbig,G.mbig,R0.big,fun H3 D2 s3 hD2=>?_⟩
     rw[←htk] at hD2
     refine⟨_,rfl,_,rfl,a,_,rfl,SqL.of (s3 _ _ hts),fun p hp=>?_⟩
     rw[cut_first]
     have s4:Ae H3 (upd H3 p (.lst (ts.map V.ref).tail)):=Ae.upd hp
     have hp4:(upd H3 p (.lst (ts.map V.ref).tail)) p=some (.lst (ts.map V.ref).tail):=Ab
     generalize (upd H3 p (.lst (ts.map V.ref).tail))=H4 at s4 hp4 ⊢
     refine⟨p,rfl,⟨_,SqL.of hp4⟩,fun D3 hD3=>?_⟩
     refine lc_list (K:=K) (a:=p) (xs:=(ts.map V.ref).tail) (fun i H'=>GMk RowS H4 H' D3 ((l.tail.take i).map fun x=>woF x.1 x.2 tk)) (GMk.start (Ae.refl _) hD3) (fun i H' _ M=>SqL.of (M.same _ _ hp4)) ?_ ?_
     ·
      rintro i x H' hi M
      obtain⟨hi1,rfl⟩:=tailD hi
      have Ri:=G.rows (i+1) (by omega)
      obtain⟨hnei,nb,hb1,hb2⟩:=(paired_getD hpt (i:=i+1) (by omega)).same (Ae.trans s3 (Ae.trans s4 M.same))
      refine⟨ts.getD (i+1) 0,_,rfl,SqT.of hb1,rfl,_,_,rfl,_,_,rfl,rfl,rfl,?_⟩
      dsimp only[tYes]
      rw[if_pos rfl]
      refine⟨_,rfl,_,rfl,_,rfl,nb,D2,_,tk,_,rfl,SqL.of hb2,SqL.of (M.same _ _ (s4 _ _ hD2)),by rw[Ri.len,a1],by rw[Ri.len];omega,by rw[Ri.len];omega,Ri.sc,Ri.sbig,Ri.big,a3,fun H5 q s5 hq=>?_⟩
      obtain⟨gs,b1,b2,b3⟩:=growS M s5 hq (by rw[List.length_map,List.length_take,List.length_tail];omega)
      refine⟨gs,b1,b2,?_⟩
      have hx:l.tail[i]?=some (l.getD (i+1) ([],1)):=by
       rw[List.getElem?_tail,List.getD_eq_getElem?_getD,List.getElem?_eq_getElem (by omega)];rfl
      rw[AJ hx,List.map_append];exact b3
     ·
      rintro H5 M
      have e1:(ts.map V.ref).tail.length=l.tail.length:=by rw[List.length_tail,List.length_tail,List.length_map,hl]
      rw[e1,List.take_length] at M
      refine⟨_,rfl,D2,_,_,_,rfl,rfl,SqL.of (M.same _ _ (s4 _ _ hD2)),int_ix0 (by omega),?_⟩
      rw[headD_getD]
      refine⟨⟨D3,_,_,_,_,_,_,rfl,Ae.trans s2 (Ae.trans s3 (Ae.trans s4 M.same)),M.at_,GS⟩,?_⟩
      obtain⟨ts3,h31,h32⟩:=M.at_
      have h33:=h32.length
      rw[List.length_map,List.length_tail] at h33
      show (match H5 D3 with | some (.lst xs)=>xs.length | _=>0)<(match H2 a with | some (.lst xs)=>xs.length | _=>0)
      rw[h31,hts]
      show (ts3.map V.ref).length<(ts.map V.ref).length
      rw[List.length_map,List.length_map];omega
    ·
     have hb:decide ((2:Int)<(l.length:Int))=false:=by simp;omega
     rw[hb]
     refine A3 ?_
     obtain⟨hl2,E2⟩:=stg_end S G e
     refine⟨_,rfl,a,rfl,⟨_,SqL.of hts⟩,fun D4 hD4=>?_⟩
     refine lc_list (K:=K) (a:=a) (xs:=ts.map V.ref) (fun i H'=>Ae H2 H'∧H' D4=some (.lst ((l.take i).map fun x=>V.int ((atM x.1 x.2 me).getD 0 0)))) ⟨Ae.upd hD4,Ab⟩ (fun i H' _ q=>SqL.of (q.1 _ _ hts)) ?_ ?_
     ·
      rintro i x H' hi ⟨sm,hDi⟩
      obtain⟨t,ht,rfl⟩:=AL hi
      obtain⟨x,hx,hrt⟩:=AF hpt ht
      obtain⟨hi1,_⟩:=List.getElem?_eq_some_iff.mp hx
      have ex:l.getD i ([],1)=x:=by rw[List.getD_eq_getElem?_getD,hx];rfl
      have Ri:=G.rows i (by omega)
      obtain⟨c1,c2,c3⟩:=E2 i (by omega)
      rw[ex] at Ri c1 c2 c3
      obtain⟨hnei,nb,hb1,hb2⟩:=hrt.same sm
      refine⟨t,_,rfl,SqT.of hb1,rfl,_,_,rfl,_,_,rfl,rfl,rfl,?_⟩
      dsimp only[tYes]
      rw[if_pos rfl]
      refine⟨_,rfl,_,rfl,_,rfl,nb,_,_,me,rfl,SqL.of hb2,by rw[Ri.len];omega,Ri.sc,Ri.sbig,G.mbig,Ri.big,fun H5 D5 s5 hD5=>?_⟩
      refine⟨D5,_,_,_,rfl,rfl,SqL.of hD5,int_ix0 (by omega),?_⟩
      rw[headD_getD]
      refine⟨_,s5 _ _ hDi,by rw[List.length_map,List.length_take];exact AC (by omega),fun b o e=>?_,?_⟩
      ·
       rw[Ai (Aj e hD4)];exact s5 _ _ (sm _ _ e)
      ·
       rw[Ab,AJ hx,List.map_append];rfl
     ·
      rintro H5 ⟨sm,hDi⟩
      rw[List.length_map,hl,List.take_length] at hDi
      have el:l=[l.getD 0 ([],1),l.getD 1 ([],1)]:=by
       match l,hl2 with
       | [x,y],_=>rfl
      obtain⟨_,c2,c3⟩:=E2 0 (by decide)
      obtain⟨_,d2,d3⟩:=E2 1 (by decide)
      refine k H5 D4 _ _ (Ae.trans s2 sm) ?_ c2 d2 c3 d3
      rw[hDi]
      conv=>lhs;rw[el]
      rfl
   ·
    rintro σ H' Q1 Q2 hq ⟨x,h1,p,ys,h2,h3,i,j,h4,h5,k',h6,h7⟩
    exact⟨x,h1,p,ys,h2,h3,i,j,h4,h5,k',h6,hq _ _ h7⟩
end
end Wk
namespace Wk
open PySem PySem.Spec PyProof.Rows L2 Rb
section
variable {P:Program}{w:World}{K:PySem.W.Frag}{mg:Str→Option Value}{base:Heap}
set_option exponentiation.threshold 3000 in
theorem big1000:BIG<2^1200:=by decide +kernel
theorem low_small (x:Int)(n:Nat)(hn:0<n):(Su111.low x n).1.natAbs≤x.natAbs∧(Su111.low x n).2≤n:=by
 unfold Su111.low
 rw[if_neg (Nat.ne_of_gt (Nat.gcd_pos_of_pos_right _ hn))]
 exact⟨Int.natAbs_ediv_le_natAbs _ _,Nat.div_le_self _ _⟩
def FrAt (H:Hp)(p:Addr)(f:Su111.Fr):Prop:=H p=some (.tup [.int f.1,.int (f.2:Nat)])
def Small (f:Su111.Fr):Prop:=f.1.natAbs<BIG∧f.2<BIG
def spPieces (K:PySem.W.Frag)(tb:Addr):Sp:=fun vs H Q _=>∃(ca wa:Addr) (c r:List Nat),vs=[.ref ca,.ref wa]∧SqA K H ca (c.map nV)∧WayAt K H wa r∧Fine c r∧Tab tb lPos lQual H∧
 ∀(H':Hp) (p:Addr),A8 tb H H'→Tab tb lPos lQual H'→FrAt H' p (Su112.rate c r)→Small (Su112.rate c r)→Q (.ref p) H'
theorem scPieces:Aq ["chances","way","left"] ["chances","way"] (Ag sPieces):=⟨rfl,rfl,rfl,by decide +kernel,rfl,by decide +kernel,by decide +kernel⟩
theorem ok_pieces {f tb fE fL fW:Addr}{fd fdE fdL fdW:FuncData}(F:Fun K "pieces_an_hour" "pieces_an_hour" sPieces f fd)
  (GE:Ah P w K mg base CX0 4 fE fdE ["chances","way"] (spEqs K tb))(bE:An K fdE ["chances","way"] [])(kE:PySem.W.keepIn K (.ref fE)=true)(mE:mg "equations"=some (.ref fE))
  (GL:Ah P w K mg base CX0 2 fL fdL ["rows"] (spLast K))(bL:An K fdL ["rows"] [])(kL:PySem.W.keepIn K (.ref fL)=true)(mL:mg "last_two_left"=some (.ref fL))
  (GW:Ah P w K mg base CX0 2 fW fdW ["above","below"] spLowest)(bW:An K fdW ["above","below"] [])(kW:PySem.W.keepIn K (.ref fW)=true)(mW:mg "lowest"=some (.ref fW)):
  Ah P w K mg base CX0 5 f fd ["chances","way"] (spPieces K tb):=by
 refine F.ok scPieces (fun vs H Q E h=>?_) (fun cdv A outer s H vs Q E hr h=>?_)
 ·
  obtain⟨ca,wa,c,r,rfl,_⟩:=h
  rfl
 ·
  obtain⟨ca,wa,c,r,rfl,hc,hw,hF,tbl,k⟩:=h
  have hr2:AM 2 _:=hr.mono (by decide)
  refine⟨_,Ad (As (i:=2) scPieces.nd rfl (Or.inl rfl) (Aw GL hr2 rfl mL kL bL .nil Ap (Aa (Aw GE hr rfl mE kE bE .nil Ap (Aa (pv 0) (Aa (pv 1) Ac))) Ac)))<|
   Af (Al (Aw GW hr2 rfl mW kW bW .nil Ap (Aa (AK AI (pv 2) Ao (fun _ _=>rfl)) (Aa (AK AI (pv 2) Ao (fun _ _=>rfl)) Ac)))),?_⟩
  refine⟨_,rfl,_,rfl,ca,wa,c,r,rfl,hc,hw,hF,tbl,fun H1 l T O sT tb1 hrows=>?_⟩
  have Or:=hF.ord T O.perm O.last
  have hpos:=Or.pos
  have hl4:c.length≤4:=by have:=hF.lens;have:=hF.few;omega
  refine⟨l,_,T.length,rfl,hrows,sys hF O,rowsOf_len c r T hpos,rowsOf_lens c r T,?_,fun H2 l2 l0 l1 s2 hl2 e0 e1 b0 b1=>?_⟩
  ·
   exact rowsOf_small c r T hF.ch hl4
  ·
   obtain⟨hp1,hrate⟩:=left_rate hF O l0 l1 e0 e1
   have hcast:l1=((l1.toNat:Nat):Int):=by omega
   have hB:=big1000
   have hn:l1.toNat<BIG:=by omega
   refine⟨_,rfl,l2,_,_,_,rfl,rfl,SqL.of hl2,rfl,_,rfl,l2,_,_,_,rfl,rfl,SqL.of hl2,rfl,l0,l1.toNat,by rw[←hcast];rfl,by omega,by omega,fun p hp=>?_⟩
   have sm:=low_small l0 l1.toNat (by omega)
   rw[←hrate] at sm ⊢
   refine k _ p (A8.trans sT (A8.of (Ae.trans s2 (Ae.upd hp)))) (tb1.same (Ae.trans s2 (Ae.upd hp))) Ab ⟨by omega,by omega⟩
end
end Wk
namespace L2
open PySem PySem.Spec PyProof.Rows
section
variable {prog:Program}{w:World}{K:Type}[DecidableEq K](knd:KeyKind prog w K)
inductive KeysAt (h:Heap):List (List K)→List Value→Prop
 | nil:KeysAt h [] []
 | cons {k:List K} {b:Addr} {ks:List (List K)} {vs:List Value}:IsTupleKey knd h k b→KeysAt h ks vs→KeysAt h (k::ks) (.ref b::vs)
def IsNest (h:Heap)(ks:List (List K))(a:Addr):Prop:=∃o items n,h.get? a=some o∧o.cls=.type "tuple"∧o.data=.seq items n∧KeysAt knd h ks items.toList
variable {knd}
theorem KeysAt.inj {h:Heap}{x y:List (List K)}{vs:List Value}(hx:KeysAt knd h x vs)(hy:KeysAt knd h y vs):x=y:=by
 induction hx generalizing y with
 | nil=>cases hy;rfl
 |
  cons h1 _ ih=>
  cases hy with
  | cons h2 t2=>rw[h1.inj h2,ih t2]
theorem KeysAt.keeps {h h':Heap}{x:List (List K)}{vs:List Value}{d:Addr}{o:Obj}{es ep}(hx:KeysAt knd h x vs)(ho:h.get? d=some o)(hd:o.data=.dict es ep)(hs:Heap.SameBut d h h'):KeysAt knd h' x vs:=by
 induction hx with
 | nil=>exact .nil
 | cons h1 _ ih=>exact .cons (h1.keeps ho hd hs) ih
theorem IsNest.typeIs {s:Shared}{ks:List (List K)}{a:Addr}(x:IsNest knd s.heap ks a):s.TypeIs (.ref a) "tuple":=let ⟨o,_,_,ho,hc,_⟩:=x;⟨o,ho,hc⟩
theorem IsNest.inj {h:Heap}{a:Addr}{x y:List (List K)}(hx:IsNest knd h x a)(hy:IsNest knd h y a):x=y:=by
 obtain⟨o,items,n,ho,_,hd,hi⟩:=hx
 obtain⟨o',items',n',ho',_,hd',hi'⟩:=hy
 obtain rfl:o=o':=Option.some.inj (ho.symm.trans ho')
 rw[hd] at hd'
 injection hd' with h1 _
 subst h1
 exact hi.inj hi'
theorem IsNest.keeps {h h':Heap}{ks:List (List K)}{a d:Addr}{o:Obj}{es ep}(x:IsNest knd h ks a)(ho:h.get? d=some o)(hd:o.data=.dict es ep)(hs:Heap.SameBut d h h'):IsNest knd h' ks a:=by
 obtain⟨o',items,n,ho',hc,hd',hi⟩:=x
 have hne:a≠d:=by
  rintro rfl
  obtain rfl:o'=o:=Option.some.inj (ho'.symm.trans ho)
  rw[hd] at hd';exact nomatch hd'
 exact⟨o',items,n,(hs.2 a hne).trans ho',hc,hd',hi.keeps ho hd hs⟩
def nestHash (knd:KeyKind prog w K)(ks:List (List K)):Int:=reduceHash (Builtin.Tuple.tupleHashOf (ks.map (tupleKeyHash knd)))
def nestDraws (ks:List (List K)):Nat:=(ks.map fun k=>k.length+1).sum
variable {A:Around}{E:Value→Shared→Prop}{s:Shared}
theorem hash_nest {ks:List (List K)}{a:Addr}{Q:Int→Shared→Prop}(hu:A.units+20<cLine)(hk:IsNest knd s.heap ks a)(h:Q (nestHash knd ks) {s with toks:=s.toks+(nestDraws ks+1)}):
  wpAny (model prog w) A (pyHash (.ref a)) Q E s:=by
 have hT:=hk.typeIs
 obtain⟨o,items,n,ho,_,hd,hi⟩:=hk
 unfold pyHash
 first | unfold pyHashByItsType | skip
 first | refine wpAny_bind (wpAny_cRoomFor_or (.inr (by omega)) ?_) | skip
 refine wpAny_bind (wpAny_specialOf hT F.slot_tuple_hash.lookup ?_)
 show wpAny _ _ (if (some (Value.builtin "tuple.__hash__")==some Value.none)=true then _ else _) Q E s
 rw[if_neg (by rw[beq_builtin_none];exact Bool.false_ne_true)]
 refine wpAny_bind (wpAny_specialOf hT F.slot_tuple_hash.lookup ?_)
 show wpAny _ _ (callSpecialIfBoundUnlessNone? (.ref a) "__hash__" _>>= _) Q E s
 refine wpAny_bind (wpAny_callSpecialIfBoundUnlessNone?_slot hT F.slot_tuple_hash (wpAny_call_entry F.slot_tuple_hash hT F.entry_tuple_hash ?_ (F.args_tuple_hash_1 _)))
 show wpAny _ _ (Builtin.Tuple.tupleItemsOf (.ref a)>>= _) _ _ s
 refine wpAny_bind (wpAny_tupleItemsOf ho hd ?_)
 refine wpAny_bind ?_
 rw[←Array.forIn_toList]
 refine wpAny_forIn_list _
  (fun rest (b:Array Int) s'=>∃done left,ks=done++left∧KeysAt knd s.heap left rest∧b.toList=done.map (tupleKeyHash knd)∧s'={s with toks:=s.toks+nestDraws done})
  _ ?_ ?_ _ _ ⟨[],ks,rfl,hi,rfl,rfl⟩
 ·
  rintro x rest b s' ⟨done,left,rfl,hl,hb,rfl⟩
  cases hl with
  |
   @cons k b' ks' _ h1 hl'=>
   refine wpAny_bind (wpAny_pyHash_tuple (A:=A.in1) (by show A.units+1<cLine;omega) h1 ?_)
   first
    | exact wpAny_pure ⟨done++[k],ks',by simp,hl',by simp[hb],by simp[nestDraws,Nat.add_assoc]⟩
    | exact wpAny_bind (wpAny_pure (wpAny_pure ⟨done++[k],ks',by simp,hl',by simp[hb],by simp[nestDraws,Nat.add_assoc]⟩))
 ·
  rintro b s' ⟨done,left,rfl,hl,hb,rfl⟩
  cases hl
  rw[List.append_nil] at h
  show wpAny _ _ (retInt (Builtin.Tuple.tupleHashOf b.toList)) _ _ _
  rw[hb]
  refine wpAny_ret_mkInt ?_
  show wpAny _ _ (if (decide (-(2:Int)^63≤Builtin.Tuple.tupleHashOf (done.map (tupleKeyHash knd)))&&decide (Builtin.Tuple.tupleHashOf (done.map (tupleKeyHash knd))<2^63))=true then _ else _) Q E _
  unfold nestHash reduceHash at h
  by_cases hr:(decide (-(2:Int)^63≤Builtin.Tuple.tupleHashOf (done.map (tupleKeyHash knd)))&&decide (Builtin.Tuple.tupleHashOf (done.map (tupleKeyHash knd))<2^63))=true
  ·
   rw[if_pos hr]
   rw[if_pos hr] at h
   exact wpAny_pure (by simpa [Nat.add_assoc] using h)
  ·
   rw[if_neg hr]
   rw[if_neg hr] at h
   exact wpAny_bind (wpAny_rule (wpAny_pure (by simpa [Nat.add_assoc] using h)))
theorem eq_nest_tree {x y:List (List K)}{a b:Addr}{P:Fin→Shared→Prop}(hu:A.units+1<cLine)(hx:IsNest knd s.heap x a)(hy:IsNest knd s.heap y b)(h:P (.done (.ret (.bool (decide (x=y))))) s):
  wpAny (model prog w) A (Builtin.«tuple.__eq__» ⟨[.ref a,.ref b],[]⟩) P E s:=by
 have hTb:=hy.typeIs
 obtain⟨oa,xs,na,hoa,_,hda,hia⟩:=hx
 obtain⟨ob,ys,nb,hob,_,hdb,hib⟩:=hy
 show wpAny _ _ (isInstance (.ref b) (.type "tuple")>>= _) _ _ s
 refine wpAny_bind (wpAny_isInstance hTb isSubtype_tuple_tuple ?_)
 simp only[Bool.not_true,Bool.false_eq_true,if_false]
 refine wpAny_bind (wpAny_tupleItemsOf hoa hda ?_)
 refine wpAny_bind (wpAny_tupleItemsOf hob hdb ?_)
 refine wpAny_bind ?_
 refine wpAny_forIn_list _
  (fun rest r s'=>r.1=none∧s'=s∧∃x' y' xs' ys',rest=List.zip xs' ys'∧KeysAt knd s.heap x' xs'∧KeysAt knd s.heap y' ys'∧decide (x'=y')=decide (x=y)∧(xs'.length==ys'.length)=(xs.size==ys.size))
  _ ?_ ?_ _ _ ⟨rfl,rfl,x,y,xs.toList,ys.toList,rfl,hia,hib,rfl,by simp⟩
 ·
  rintro⟨u,v⟩ rest r s' ⟨hr,rfl,x',y',xs',ys',hz,hx',hy',hdec,hlen⟩
  cases hx' with
  | nil=>simp at hz
  |
   @cons k1 u' x'' xs'' h1 hx''=>
   cases hy' with
   | nil=>simp at hz
   |
    @cons k2 v' y'' ys'' h2 hy''=>
    simp only[List.zip_cons_cons,List.cons.injEq,Prod.mk.injEq] at hz
    obtain⟨⟨rfl,rfl⟩,rfl⟩:=hz
    refine wpAny_bind (wpAny_eqBool_tuple (by omega) h1 h2 ?_)
    by_cases hk:k1=k2
    ·
     subst hk
     rw[decide_eq_true rfl]
     simp only[Bool.not_true,Bool.false_eq_true,if_false]
     refine wpAny_pure ⟨rfl,rfl,x'',y'',xs'',ys'',rfl,hx'',hy'',?_,by simpa using hlen⟩
     rw[←hdec]
     by_cases hxy:x''=y''
     ·
      simp[hxy]
     ·
      simp[hxy]
    ·
     rw[decide_eq_false hk]
     simp only[Bool.not_false,if_true]
     have hf:decide (x=y)=false:=by rw[←hdec];simp[hk]
     rw[hf] at h
     exact wpAny_bind (wpAny_pure (wpAny_pure (wpAny_pure h)))
 ·
  rintro⟨r1,r2⟩ s' ⟨hr,rfl,x',y',xs',ys',hz,hx',hy',hdec,hlen⟩
  simp only at hr
  subst hr
  refine wpAny_pure ?_
  have hfin:(xs.size==ys.size)=decide (x=y):=by
   rw[←hdec,←hlen]
   cases hx' with
   |
    nil=>
    cases hy' with
    | nil=>simp
    | cons _ _=>simp
   |
    cons _ _=>
    cases hy' with
    | nil=>simp
    | cons _ _=>simp at hz
  show P (.done (.ret (.bool (xs.size==ys.size)))) s'
  rw[hfin];exact h
theorem eq_nest {x y:List (List K)}{a b:Addr}{Q:Bool→Shared→Prop}(hu:A.units+20<cLine)(hx:IsNest knd s.heap x a)(hy:IsNest knd s.heap y b)(h:Q (decide (x=y)) s):
  wpAny (model prog w) A (eqBool (.ref a) (.ref b)) Q E s:=by
 unfold eqBool
 try with_reducible refine wpAny_holding ?_
 show wpAny _ _ (if (Value.ref a==Value.ref b)=true then _ else _) Q E s
 by_cases hab:(Value.ref a==Value.ref b)=true
 ·
  rw[if_pos hab]
  have e:a=b:=by have:=eq_of_beq hab;injection this
  subst e
  obtain rfl:=hx.inj hy
  exact wpAny_bind (wpAny_rule (wpAny_pure (by simpa using h)))
 ·
  rw[if_neg hab]
  exact wpAny_bind (wpAny_richCompare_same_room (op:=.Eq) hx.typeIs hy.typeIs F.slot_tuple_eq
   (wpAny_call_entry F.slot_tuple_eq hx.typeIs F.entry_tuple_eq (eq_nest_tree (A:=A.in1) (by show A.units+1+1<cLine;omega) hx hy ⟨_,rfl,(fun e=>nomatch e),wpAny_truthy_bool h⟩) (F.args_tuple_eq_2 _ _)) (by omega))
theorem quiet_tuple (n:Nat){ks:List K}{a:Addr}{Q:Bool→Shared→Prop}(hk:IsTupleKey knd s.heap ks a)(h:Q true s):wpAny (model prog w) A (eqIsQuiet (n+1) (.ref a)) Q E s:=by
 have hT:=hk.typeIs
 obtain⟨o,items,m,ho,_,hd,hi⟩:=hk
 unfold eqIsQuiet
 refine wpAny_bind (wpAny_specialOf hT F.slot_tuple_eq.lookup ?_)
 show wpAny _ _ (isInstance (.ref a) (.type "tuple")>>= _) _ _ s
 refine wpAny_bind (wpAny_isInstance hT isSubtype_tuple_tuple ?_)
 simp only[Bool.not_true,Bool.false_eq_true,if_false]
 refine wpAny_bind (wpAny_seqItems ho hd ?_)
 refine wpAny_bind ?_
 show wpAny _ _ (forIn items _ _) _ _ s
 rw[←Array.forIn_toList]
 refine wpAny_forIn_list _ (fun rest r s'=>r.1=none∧s'=s∧∀v∈rest,carriedByValue v=true) _ ?_ ?_ _ _ ⟨rfl,rfl,hi.byValue⟩
 ·
  rintro v rest r s' ⟨hr,rfl,hall⟩
  rw[eqIsQuiet_byValue _ (hall v List.mem_cons_self)]
  refine wpAny_bind (wpAny_pure ?_)
  simp only[Bool.not_true,Bool.false_eq_true,if_false]
  exact wpAny_pure ⟨rfl,rfl,fun u hu'=>hall u (List.mem_cons_of_mem _ hu')⟩
 ·
  rintro⟨r1,r2⟩ s' ⟨hr,rfl,_⟩
  simp only at hr
  subst hr
  exact wpAny_pure h
theorem quiet_nest {ks:List (List K)}{a:Addr}{Q:Bool→Shared→Prop}(hk:IsNest knd s.heap ks a)(h:Q true s):wpAny (model prog w) A (eqIsQuiet 8 (.ref a)) Q E s:=by
 have hT:=hk.typeIs
 obtain⟨o,items,m,ho,_,hd,hi⟩:=hk
 unfold eqIsQuiet
 refine wpAny_bind (wpAny_specialOf hT F.slot_tuple_eq.lookup ?_)
 show wpAny _ _ (isInstance (.ref a) (.type "tuple")>>= _) _ _ s
 refine wpAny_bind (wpAny_isInstance hT isSubtype_tuple_tuple ?_)
 simp only[Bool.not_true,Bool.false_eq_true,if_false]
 refine wpAny_bind (wpAny_seqItems ho hd ?_)
 refine wpAny_bind ?_
 show wpAny _ _ (forIn items _ _) _ _ s
 rw[←Array.forIn_toList]
 refine wpAny_forIn_list _ (fun rest r s'=>r.1=none∧s'=s∧∃left,KeysAt knd s.heap left rest) _ ?_ ?_ _ _ ⟨rfl,rfl,ks,hi⟩
 ·
  rintro v rest r s' ⟨hr,rfl,left,hl⟩
  cases hl with
  |
   @cons k b ks' _ h1 hl'=>
   refine wpAny_bind (quiet_tuple 6 h1 ?_)
   simp only[Bool.not_true,Bool.false_eq_true,if_false]
   exact wpAny_pure ⟨rfl,rfl,ks',hl'⟩
 ·
  rintro⟨r1,r2⟩ s' ⟨hr,rfl,_⟩
  simp only at hr
  subst hr
  exact wpAny_pure h
end
def nestKind {prog:Program}{w:World}{K:Type}[DecidableEq K](knd:KeyKind prog w K):HeapKind prog w (List (List K)) where
 is:=IsNest knd
 hash:=nestHash knd
 draws:=fun ks=>nestDraws ks+1
 room:=fun A=>A.units+20<cLine
 inj:=fun hx hy=>hx.inj hy
 keeps:=fun x ho hd hs=>x.keeps ho hd hs
 pyHash:=fun hu hk h=>hash_nest hu hk h
 eqBool:=fun hu hx hy h=>eq_nest hu hx hy h
 quiet:=fun hk h=>quiet_nest hk h
end L2
namespace L2
open PySem PySem.Spec PyProof.Rows
abbrev NK:=List (List (List Key)×Addr×Addr)
def nVals (kvs:NK):List (List (List Key)×Addr×Value):=kvs.map fun q=>(q.1,q.2.1,Value.ref q.2.2)
def dNo (P:Program)(w:World)(a:Addr)(kvs:NK):Heap→Prop:=fun h=>(a==sysModules)=false∧kvs.length≤sizeLine∧
 ∃o es ep,h.get? a=some o∧o.ExactDict∧o.data=.dict es ep∧es.toList=(nVals kvs).map (entryOfKey (nestKind (mixKind P w)))∧((nVals kvs).map (·.1)).Nodup
def NestAt (H:Hp)(a:Addr)(ks:List (List Key)):Prop:=∃bs:List Addr,H a=some (.tup (bs.map V.ref))∧Paired (fun b k=>H b=some (.tup (k.map kV))) bs ks
structure DictN (P:Program)(w:World)(H:Hp)(a:Addr)(kvs:NK):Prop where
 at_:H a=some (.ext (dNo P w a kvs))
 keys:∀q∈kvs,NestAt H q.2.1 q.1
def atN (kvs:NK)(ks:List (List Key)):Option Addr:=(kvs.find? fun x=>decide (x.1=ks)).map (·.2.2)
section
variable {P:Program}{w:World}{H:Hp}{h:Heap}{a:Addr}{ks:List (List Key)}{kvs:NK}
theorem nest_of (ok:HOk P w H h)(e:NestAt H a ks):(nestKind (mixKind P w)).is h ks a:=by
 obtain⟨bs,h1,h2⟩:=e
 obtain⟨z,its,r,⟨o,ho,hc,n,hd⟩,_⟩:=ok a _ h1
 have ei:=refs_at r
 subst ei
 refine⟨o,_,n,ho,hc,hd,?_⟩
 clear h1 r z ho hc hd
 rw[List.toList_toArray]
 induction h2 with
 | nil=>exact .nil
 | cons e t ih=>exact .cons (key_of ok e) ih
theorem dn_of (ok:HOk P w H h)(d:DictN P w H a kvs):(a==sysModules)=false∧kvs.length≤sizeLine∧h.DictOfH (nestKind (mixKind P w)) a (nVals kvs):=by
 obtain⟨⟨h1,h2,o,es,ep,g1,g2,g3,g4,g5⟩,_,_⟩:=ok a _ d.at_
 refine⟨h1,h2,o,es,ep,g1,g2,g3,g4,fun x hx=>?_,g5⟩
 obtain⟨q,hq,rfl⟩:=List.mem_map.mp hx
 exact nest_of ok (d.keys q hq)
theorem dn_stay {h1 h2:Heap}(x:dNo P w a kvs h1)(k:∀o,h1.get? a=some o→h2.get? a=some o):dNo P w a kvs h2:=by
 obtain⟨y,z,o,es,ep,g,r⟩:=x
 exact⟨y,z,o,es,ep,k _ g,r⟩
theorem dn_ok (x:dNo P w a kvs h):ObjOk P w H h a (.ext (dNo P w a kvs)):=by
 refine⟨x,?_,fun h1 h2 y k=>dn_stay y k⟩
 obtain⟨_,_,o,_,_,g,_⟩:=x
 exact⟨o,g⟩
theorem atKey_nVals (kvs:NK)(ks:List (List Key)):(atKey (nVals kvs) ks).map (·.2)=(atN kvs ks).map Value.ref:=by
 induction kvs with
 | nil=>rfl
 |
  cons q l ih=>
  unfold atKey atN nVals at *
  rw[List.map_cons,List.find?_cons,List.find?_cons]
  by_cases e:q.1=ks
  ·
   simp[e]
  ·
   simp only[e,decide_false];exact ih
end
section
variable {X:Cx}{pins:List (Addr×Obj)}{σ:St}{H:Hp}{s:Shared}{a b:Addr}{kvs:NK}{ks:List (List Key)}{A:Around}{E:Value→Shared→Prop}
theorem n_getItem {p:Addr}{Q:Value→Shared→Prop}(hu:A.units+30<cLine)(I:Inv X pins σ H s)(d:DictN X.prog X.w H a kvs)(g:NestAt H b ks)(l:atN kvs ks=some p)(h:∀s',Inv X pins σ H s'→Q (.ref p) s'):
  wpAny (model X.prog X.w) A (getItem (.ref a) (.ref b)) Q E s:=by
 obtain⟨z,hz,dd⟩:=dn_of I.hok d
 have e:=atKey_nVals kvs ks
 rw[l] at e
 obtain⟨q,hq,hq2⟩:=Option.map_eq_some_iff.mp e
 refine wpAny_getItem_heap (knd:=nestKind (mixKind X.prog X.w)) (show A.units+1+20<cLine by omega) (nest_of I.hok g) dd hq ?_
 rw[hq2]
 exact h _ (I.tok _)
theorem n_notIn {Q:Value→Shared→Prop}(hu:A.units+30<cLine)(I:Inv X pins σ H s)(d:DictN X.prog X.w H a kvs)(g:NestAt H b ks)(h:∀s',Inv X pins σ H s'→Q (.bool (!(atN kvs ks).isSome)) s'):
  wpAny (model X.prog X.w) A (compareOp .NotIn (.ref b) (.ref a)) Q E s:=by
 obtain⟨z,hz,dd⟩:=dn_of I.hok d
 have e:=congrArg Option.isSome (atKey_nVals kvs ks)
 rw[Option.isSome_map,Option.isSome_map] at e
 refine wpAny_notIn_heap (knd:=nestKind (mixKind X.prog X.w)) (show A.units+1+20<cLine by omega) (nest_of I.hok g) z dd ?_
 rw[e]
 exact h _ (I.tok _)
theorem n_setItem {p:Addr}{Q:Unit→Shared→Prop}(hu:A.units+30<cLine)(I:Inv X pins σ H s)(d:DictN X.prog X.w H a kvs)(g:NestAt H b ks)(l:atN kvs ks=none)(hl:kvs.length<sizeLine)
  (h:∀s',Inv X pins σ (upd H a (.ext (dNo X.prog X.w a (kvs++[(ks,b,p)])))) s'→Q () s'):wpAny (model X.prog X.w) A (setItem (.ref a) (.ref b) (.ref p)) Q E s:=by
 obtain⟨z,hz,dd⟩:=dn_of I.hok d
 have e:=atKey_nVals kvs ks
 rw[l,Option.map_none,Option.map_eq_none_iff] at e
 refine wpAny_setItem_heap (knd:=nestKind (mixKind X.prog X.w)) (hsz:=by unfold nVals;rw[List.length_map];exact hz) (show A.units+1+20<cLine by omega) (nest_of I.hok g) dd fun h' dd' hs=>h _ ?_
 obtain⟨q,es,ep,hq,h2,h3,h4,_,h5⟩:=dd'
 have en:storedH (nVals kvs) ks b (.ref p)=nVals (kvs++[(ks,b,p)]):=by
  rw[storedH_new e];unfold nVals;rw[List.map_append];rfl
 rw[en] at h4 h5
 exact d_write I (by rw[d.at_];exact True.intro) hs ⟨q,hq⟩ (dn_ok ⟨z,by rw[List.length_append];exact hl,q,es,ep,hq,h2,h3,h4,h5⟩)
end
def tNGet (P:Program)(w:World)(td ty:TE):TE:=fun σ H Q=>td σ H fun x H1=>ty σ H1 fun y H2=>∃a b kvs ks p,x=.ref a∧y=.ref b∧DictN P w H2 a kvs∧NestAt H2 b ks∧atN kvs ks=some p∧Q (.ref p) H2
def tNNotIn (P:Program)(w:World)(ty td:TE):TE:=fun σ H Q=>ty σ H fun y H1=>td σ H1 fun x H2=>∃a b kvs ks,x=.ref a∧y=.ref b∧DictN P w H2 a kvs∧NestAt H2 b ks∧Q (.bl (!(atN kvs ks).isSome)) H2
def sNPut (P:Program)(w:World)(td ty tv:TE):TS:=fun D σ H=>tv σ H fun v H1=>td σ H1 fun x H2=>ty σ H2 fun y H3=>∃a b p kvs ks,x=.ref a∧y=.ref b∧v=.ref p∧DictN P w H3 a kvs∧NestAt H3 b ks∧atN kvs ks=none∧kvs.length<sizeLine∧
 D.nx σ (upd H3 a (.ext (dNo P w a (kvs++[(ks,b,p)]))))
def tDNewN (P:Program)(w:World):TE:=fun _ H Q=>∀p,H p=none→Q (.ref p) (upd H p (.ext (dNo P w p [])))
section
variable {X:Cx}{o i e value:Expr}{pos pos' tpos:Pos}{td ty tv:TE}
theorem pe_nget (hu:X.A.units+30<cLine)(ho:PE X o td)(hi:PE X i ty)(hs:NoSl i):PE X (.Subscript o i pos) (tNGet X.prog X.w td ty):=by
 intro pins s σ H Q I h
 refine subD_of PySem.F.slot_dict_getitem.lookup hs (thn (ho pins s σ H _ I h) fun u s1 ⟨x,H1,I1,rx,q1⟩=>thn (hi pins s1 σ H1 _ I1 q1) fun iv s2 ⟨y,H2,I2,ry,a,b,kvs,ks,p,ex,ey,d,g,l,q2⟩=>?_)
 subst ex ey
 obtain rfl:u=Value.ref a:=rx
 obtain rfl:iv=Value.ref b:=ry
 exact⟨(dn_of I2.hok d).2.2.typeIs,n_getItem hu I2 d g l fun s3 I3=>⟨.ref p,H2,I3,rfl,q2⟩⟩
theorem pc_nnotin (hu:X.A.units+30<cLine)(hi:PE X i ty)(ho:PE X o td):PC X .NotIn i o (tNNotIn X.prog X.w ty td):=by
 intro pins s σ H Q I h
 refine thn (hi pins s σ H _ I h) fun iv s1 ⟨y,H1,I1,ry,q1⟩=>thn (ho pins s1 σ H1 _ I1 q1) fun u s2 ⟨x,H2,I2,rx,a,b,kvs,ks,ex,ey,d,g,q2⟩=>?_
 subst ex ey
 obtain rfl:u=Value.ref a:=rx
 obtain rfl:iv=Value.ref b:=ry
 exact n_notIn hu I2 d g fun s3 I3=>⟨.bl (!(atN kvs ks).isSome),H2,I3,rfl,q2⟩
theorem ps_nput (hu:X.A.units+30<cLine)(ho:PE X o td)(hi:PE X i ty)(hv:PE X value tv)(hs:swapsWith value (some (.Subscript o i pos')) pos.line X.env=pure false):
  PS X (.Assign [.Subscript o i pos'] value pos) (sNPut X.prog X.w td ty tv):=by
 intro pins s σ H D I h
 refine wpAny_Assign_Subscript (thn (hv pins s σ H _ I h) fun r s1 ⟨v,H1,I1,rv,q1⟩=>thn (ho pins s1 σ H1 _ I1 q1) fun u s2 ⟨x,H2,I2,rx,q2⟩=>thn (hi pins s2 σ H2 _ I2 q2) fun iv s3 ⟨y,H3,I3,ry,a,b,p,kvs,ks,ex,ey,ev,d,g,l,hl,q3⟩=>?_) hs
 subst ex ey ev
 obtain rfl:u=Value.ref a:=rx
 obtain rfl:iv=Value.ref b:=ry
 obtain rfl:r=Value.ref p:=rv
 exact n_setItem hu I3 d g l hl fun s4 I4=>⟨σ,_,I4,q3⟩
theorem dn_empty {P:Program}{w:World}{H:Hp}(h:Heap)(hb:sysModules<h.objs.size):ObjOk P w H (h.push {cls:=.type "dict",data:=.dict #[]}) h.objs.size (.ext (dNo P w h.objs.size [])):=
 dn_ok ⟨beq_eq_false_iff_ne.mpr (Ne.symm (Nat.ne_of_lt hb)),Nat.zero_le _,_,#[],0,Heap.get?_push_size _ rfl,⟨rfl,rfl,rfl⟩,rfl,rfl,List.nodup_nil⟩
theorem pe_dnewN:PE X (.Dict [] [] pos) (tDNewN X.prog X.w):=fun pins s σ H Q I h=>
 wpAny_Dict_empty ⟨.ref s.heap.objs.size,_,I.laid (a:=s.heap.objs.size) (o:=.ext (dNo X.prog X.w s.heap.objs.size [])) (t':=s.toks) (fun _ _ q=>Heap.get?_push_of_some _ q) (Nat.le_refl _) (dn_empty s.heap I.big),rfl,h _ (I.hok.fresh (Nat.le_refl _))⟩
end
end L2
namespace Rb
def prodW (r:List Nat):Nat:=(r.map fun x=>x+1).foldl (fun x y=>x*y) 1
theorem prodW_snoc (r:List Nat)(x:Nat):prodW (r++[x])=prodW r*(x+1):=by unfold prodW;rw[List.map_append,List.foldl_append];rfl
theorem fits_prod (r:List Nat):Su112.fits r=decide (prodW r≤27):=rfl
def okWay (g:Nat)(r:List Nat):Bool:=r.length==g&&(r.all (fun x=>decide (1≤x)&&decide (x≤8))&&Su112.fits r)
def growR (w:List Nat)(k:Nat):List (List Nat):=((List.range k).map fun h=>w++[h+1]).filter Su112.fits
def growW (l:List (List Nat)):List (List Nat):=l.flatMap fun w=>growR w 8
def pyWays:Nat→List (List Nat)
 | 0=>[[]]
 | g+1=>growW (pyWays g)
theorem growR_succ (w:List Nat)(k:Nat):growR w (k+1)=growR w k++(if Su112.fits (w++[k+1]) then [w++[k+1]] else []):=by
 unfold growR
 rw[List.range_succ,List.map_append,List.filter_append]
 congr 1
 simp[List.filter_cons]
theorem growW_take {l:List (List Nat)}{j:Nat}{w:List Nat}(h:l[j]?=some w):growW (l.take (j+1))=growW (l.take j)++growR w 8:=by
 rw[List.take_add_one,h]
 unfold growW
 rw[List.flatMap_append];simp
theorem pyWays_spec:((List.range 4).all fun g=>(List.range 9).all fun n=>decide ((pyWays g).filter (fun w=>w.sum==n)=Su112.waysOf g n))=true:=by decide +kernel
theorem pyWays_few:((List.range 4).all fun g=>decide ((pyWays g).length≤100)&&(pyWays g).all fun w=>decide (w.length=g)&&w.all fun x=>decide (1≤x)&&decide (x≤8))=true:=by decide +kernel
theorem ways_eq {g n:Nat}(hg:g≤3)(hn:n≤8):(pyWays g).filter (fun w=>w.sum==n)=Su112.waysOf g n:=by
 have h:=List.all_eq_true.mp pyWays_spec g (List.mem_range.mpr (by omega))
 exact of_decide_eq_true (List.all_eq_true.mp h n (List.mem_range.mpr (by omega)))
theorem ways_few {g:Nat}(hg:g≤3):(pyWays g).length≤100∧∀w∈pyWays g,w.length=g∧∀x∈w,1≤x∧x≤8:=by
 have h:=List.all_eq_true.mp pyWays_few g (List.mem_range.mpr (by omega))
 rw[Bool.and_eq_true] at h
 refine⟨of_decide_eq_true h.1,fun w hw=>?_⟩
 have h2:=List.all_eq_true.mp h.2 w hw
 rw[Bool.and_eq_true] at h2
 refine⟨of_decide_eq_true h2.1,fun x hx=>?_⟩
 have h3:=List.all_eq_true.mp h2.2 x hx
 rw[Bool.and_eq_true] at h3
 exact⟨of_decide_eq_true h3.1,of_decide_eq_true h3.2⟩
end Rb
namespace Wk
open PySem PySem.Spec PyProof.Rows L2 Rb
section
variable {P:Program}{w:World}{K:PySem.W.Frag}{mg:Str→Option Value}{base:Heap}
def spCount (K:PySem.W.Frag):Sp:=fun vs H Q _=>∃(wa:Addr) (r:List Nat),vs=[.ref wa]∧SqA K H wa (r.map nV)∧(∀x∈r,x≤8)∧Q (nV (prodW r)) H
theorem scCount:Aq ["way","many","held"] ["way"] (Ag sCount):=⟨rfl,rfl,rfl,by decide +kernel,rfl,by decide +kernel,by decide +kernel⟩
theorem prodW_take {r:List Nat}{i:Nat}(h:i<r.length):prodW (r.take (i+1))=prodW (r.take i)*(r.getD i 0+1):=by
 rw[AJ (x:=r.getD i 0) (by rw[List.getD_eq_getElem?_getD,List.getElem?_eq_getElem h];rfl),prodW_snoc]
theorem getD_memN {l:List Nat}{i:Nat}(h:i<l.length):l.getD i 0∈l:=by
 rw[List.getD_eq_getElem?_getD,List.getElem?_eq_getElem h];exact List.getElem_mem h
theorem ok_count {f:Addr}{fd:FuncData}(F:Fun K "count_fillings" "count_fillings" sCount f fd):Ah P w K mg base CX0 1 f fd ["way"] (spCount K):=by
 refine F.ok scCount (fun vs H Q E h=>?_) (fun cdv A outer s H vs Q E hr h=>?_)
 ·
  obtain⟨wa,r,rfl,_⟩:=h
  rfl
 ·
  obtain⟨wa,r,rfl,hw,h8,k⟩:=h
  have step:∀(i:Nat),i<r.length→CMul ((prodW (r.take i):Nat):Int) (((r.getD i 0:Nat):Int)+1)∧((prodW (r.take i):Nat):Int)*(((r.getD i 0:Nat):Int)+1)=((prodW (r.take (i+1)):Nat):Int):=fun i hi=>by
   have:=h8 _ (getD_memN hi)
   refine⟨.inr ⟨by omega,by omega⟩,?_⟩
   rw[prodW_take hi,Int.natCast_mul];rfl
  rcases hw with hw | hw
  ·
   refine⟨_,Ad (As (i:=1) scCount.nd rfl (Or.inl rfl) Ao)<|
    Ad (ps_for PassesOwn.never rfl (A1 (pv 0)) (Au (i:=2) scCount.nd rfl (Or.inl rfl)) (Af (As (i:=1) scCount.nd rfl (Or.inl rfl) (AH op_mul (pv 1) (AH op_add (pv 2) Ao)))))<|
    Af (Al (pv 1)),?_⟩
   refine⟨_,rfl,wa,rfl,⟨_,hw⟩,for_list (K:=K) (a:=wa) (xs:=r.map nV) (fun i σ H'=>H'=H∧∃v2,σ=[some (.ref wa),some (nV (prodW (r.take i))),v2]) ⟨rfl,none,rfl⟩ (fun i σ H' _ q=>by rw[q.1];exact hw) ?_ ?_⟩
   ·
    rintro i y σ H' hi ⟨rfl,v2,rfl⟩
    obtain⟨hlt,rfl⟩:=map_nV_at hi
    refine⟨_,rfl,_,rfl,_,_,rfl,rfl,_,_,rfl,rfl,(step i hlt).1,?_⟩
    refine⟨rfl,some (nV (r.getD i 0)),?_⟩
    show [some (V.ref wa),some (V.int (((prodW (r.take i):Nat):Int)*(((r.getD i 0:Nat):Int)+1))),some (nV (r.getD i 0))]=_
    rw[(step i hlt).2];rfl
   ·
    rintro σ H' ⟨rfl,v2,rfl⟩
    rw[List.length_map,List.take_length]
    exact⟨_,rfl,k⟩
  ·
   refine⟨_,Ad (As (i:=1) scCount.nd rfl (Or.inl rfl) Ao)<|
    Ad (ps_for PassesOwn.never rfl (pi_tup (pv 0)) (Au (i:=2) scCount.nd rfl (Or.inl rfl)) (Af (As (i:=1) scCount.nd rfl (Or.inl rfl) (AH op_mul (pv 1) (AH op_add (pv 2) Ao)))))<|
    Af (Al (pv 1)),?_⟩
   refine⟨_,rfl,wa,rfl,⟨_,hw⟩,for_tup (K:=K) (a:=wa) (xs:=r.map nV) (fun i σ H'=>H'=H∧∃v2,σ=[some (.ref wa),some (nV (prodW (r.take i))),v2]) ⟨rfl,none,rfl⟩ (fun i σ H' _ q=>by rw[q.1];exact hw) ?_ ?_⟩
   ·
    rintro i y σ H' hi ⟨rfl,v2,rfl⟩
    obtain⟨hlt,rfl⟩:=map_nV_at hi
    refine⟨_,rfl,_,rfl,_,_,rfl,rfl,_,_,rfl,rfl,(step i hlt).1,?_⟩
    refine⟨rfl,some (nV (r.getD i 0)),?_⟩
    show [some (V.ref wa),some (V.int (((prodW (r.take i):Nat):Int)*(((r.getD i 0:Nat):Int)+1))),some (nV (r.getD i 0))]=_
    rw[(step i hlt).2];rfl
   ·
    rintro σ H' ⟨rfl,v2,rfl⟩
    rw[List.length_map,List.take_length]
    exact⟨_,rfl,k⟩
def spIsWay (K:PySem.W.Frag):Sp:=fun vs H Q _=>∃(wa:Addr) (r:List Nat) (g:Nat),vs=[.ref wa,nV g]∧SqA K H wa (r.map nV)∧Q (.bl (okWay g r)) H
theorem scIsWay:Aq ["way","rooms","held"] ["way","rooms"] (Ag sIsWay):=⟨rfl,rfl,rfl,by decide +kernel,rfl,by decide +kernel,by decide +kernel⟩
def okH (x:Nat):Bool:=decide (1≤x)&&decide (x≤8)
theorem okH_iff {x:Nat}:okH x=true↔1≤x∧x≤8:=by unfold okH;simp
theorem okWay_no {g:Nat}{r:List Nat}{i:Nat}(h:i<r.length)(b:okH (r.getD i 0)=false):okWay g r=false:=by
 have:r.all (fun x=>decide (1≤x)&&decide (x≤8))=false:=by
  rw[List.all_eq_false]
  exact⟨_,getD_memN h,by have:(decide (1≤r.getD i 0)&&decide (r.getD i 0≤8))=false:=b;rw[this];exact Bool.false_ne_true⟩
 unfold okWay
 rw[this];simp
theorem okWay_yes {r:List Nat}(h:∀i,i<r.length→okH (r.getD i 0)=true):okWay r.length r=decide (((prodW r:Nat):Int)≤27)∧∀x∈r,x≤8:=by
 have hx:∀x∈r,okH x=true:=fun x hx=>by
  obtain⟨i,hi,e⟩:=List.mem_iff_getElem.mp hx
  have:=h i hi
  rw[List.getD_eq_getElem?_getD,List.getElem?_eq_getElem hi,e] at this
  exact this
 have ha:r.all (fun x=>decide (1≤x)&&decide (x≤8))=true:=List.all_eq_true.mpr hx
 refine⟨?_,fun x q=>(okH_iff.mp (hx x q)).2⟩
 unfold okWay
 rw[ha,fits_prod,beq_self_eq_true,Bool.true_and,Bool.true_and]
 apply decide_eq_decide.mpr
 omega
theorem ok_isWay {f fC:Addr}{fd fdC:FuncData}{u8 u27:Value}(F:Fun K "is_way" "is_way" sIsWay f fd)(GC:Ah P w K mg base CX0 1 fC fdC ["way"] (spCount K))(bC:An K fdC ["way"] [])(kC:PySem.W.keepIn K (.ref fC)=true)(mC:mg "count_fillings"=some (.ref fC))
  (mL:mg "len"=none)(m8:mg "MOST_IN_A_ROOM"=some u8)(r8:AW (.int 8) u8)(m27:mg "MOST_FILLINGS"=some u27)(r27:AW (.int 27) u27):Ah P w K mg base CX0 2 f fd ["way","rooms"] (spIsWay K):=by
 refine F.ok scIsWay (fun vs H Q E h=>?_) (fun cdv A outer s H vs Q E hr h=>?_)
 ·
  obtain⟨wa,r,g,rfl,_⟩:=h
  rfl
 ·
  obtain⟨wa,r,g,rfl,hw,k⟩:=h
  have hn:decide ((r.length:Int)=(g:Int))=(r.length==g):=by
   rw[Bool.eq_iff_iff];simp;omega
  have test:∀(x:Nat),(decide (((x:Nat):Int)<1)||decide ((8:Int)<((x:Nat):Int)))=!(okH x):=fun x=>by
   unfold okH
   rw[Bool.eq_iff_iff];simp;omega
  rcases hw with hw | hw
  ·
   refine⟨_,Ad (AN (AB op_ne (Az (r:=rLenA K) At rfl mL PySem.boot_len (Aa (pv 0) Ac)) (pv 1) (AA _)) (Af (Al pe_bl)) Ax)<|
    Ad (ps_for PassesOwn.never rfl (A1 (pv 0)) (Au (i:=2) scIsWay.nd rfl (Or.inl rfl)) (Af (AN (PW.pt (pw_or (AB op_lt (pv 2) Ao (AA _)) (pw_or1 (AB op_gt (pv 2) (Av rfl m8 r8) (AA _))))) (Af (Al pe_bl)) Ax)))<|
    Af (Al (pe_cmpR op_le (Aw GC hr rfl mC kC bC .nil Ap (Aa (pv 0) Ac)) (Av rfl m27 r27) (AA _))),?_⟩
   refine⟨_,rfl,wa,_,rfl,.inl hw,_,rfl,rfl,_,rfl,?_⟩
   rw[List.length_map]
   by_cases e:r.length=g
   ·
    subst e
    have hb:(!decide (V.int ((r.length:Nat):Int)=nV r.length))=false:=by
     rw[decide_eq_true (show V.int ((r.length:Nat):Int)=nV r.length from rfl)];rfl
    rw[hb]
    refine A3 ?_
    refine⟨_,rfl,wa,rfl,⟨_,hw⟩,for_list (K:=K) (a:=wa) (xs:=r.map nV) (fun i σ H'=>H'=H∧(∀j,j<i→okH (r.getD j 0)=true)∧∃v2,σ=[some (.ref wa),some (nV r.length),v2]) ⟨rfl,fun j hj=>absurd hj (Nat.not_lt_zero _),none,rfl⟩ (fun i σ H' _ q=>by rw[q.1];exact hw) ?_ ?_⟩
    ·
     rintro i y σ H' hi ⟨rfl,hok,v2,rfl⟩
     obtain⟨hlt,rfl⟩:=map_nV_at hi
     have ht:=test (r.getD i 0)
     refine⟨_,rfl,_,_,rfl,rfl,_,rfl,?_⟩
     by_cases c1:((r.getD i 0:Nat):Int)<1
     ·
      rw[decide_eq_true c1]
      rw[decide_eq_true c1,Bool.true_or] at ht
      refine AY (AY ?_)
      have:okWay r.length r=false:=okWay_no hlt (by rw[←Bool.not_eq_true',←ht])
      rw[this] at k
      exact k
     ·
      rw[decide_eq_false c1]
      rw[decide_eq_false c1,Bool.false_or] at ht
      refine A3 ⟨_,rfl,_,_,rfl,rfl,_,rfl,?_⟩
      rw[ht]
      cases hz:okH (r.getD i 0) with
      |
       false=>
       refine AY ?_
       rw[okWay_no hlt hz] at k
       exact k
      |
       true=>
       refine A3 ⟨rfl,fun j hj=>?_,_,rfl⟩
       by_cases z:j=i
       ·
        rw[z];exact hz
       ·
        exact hok j (by omega)
    ·
     rintro σ H' ⟨rfl,hok,v2,rfl⟩
     rw[List.length_map] at hok
     obtain⟨e1,e2⟩:=okWay_yes hok
     rw[e1] at k
     exact⟨_,rfl,wa,r,rfl,.inl hw,e2,_,_,rfl,rfl,k⟩
   ·
    have hb:(!decide (V.int ((r.length:Nat):Int)=nV g))=true:=by
     rw[decide_eq_false (fun (z:V.int ((r.length:Nat):Int)=nV g)=>e (by have:=V.int.inj z;omega))];rfl
    rw[hb]
    refine AY ?_
    have:okWay g r=false:=by unfold okWay;rw[beq_eq_false_iff_ne.mpr e];rfl
    rw[this] at k
    exact k
  ·
   refine⟨_,Ad (AN (AB op_ne (Az (r:=rLenA K) At rfl mL PySem.boot_len (Aa (pv 0) Ac)) (pv 1) (AA _)) (Af (Al pe_bl)) Ax)<|
    Ad (ps_for PassesOwn.never rfl (pi_tup (pv 0)) (Au (i:=2) scIsWay.nd rfl (Or.inl rfl)) (Af (AN (PW.pt (pw_or (AB op_lt (pv 2) Ao (AA _)) (pw_or1 (AB op_gt (pv 2) (Av rfl m8 r8) (AA _))))) (Af (Al pe_bl)) Ax)))<|
    Af (Al (pe_cmpR op_le (Aw GC hr rfl mC kC bC .nil Ap (Aa (pv 0) Ac)) (Av rfl m27 r27) (AA _))),?_⟩
   refine⟨_,rfl,wa,_,rfl,.inr hw,_,rfl,rfl,_,rfl,?_⟩
   rw[List.length_map]
   by_cases e:r.length=g
   ·
    subst e
    have hb:(!decide (V.int ((r.length:Nat):Int)=nV r.length))=false:=by
     rw[decide_eq_true (show V.int ((r.length:Nat):Int)=nV r.length from rfl)];rfl
    rw[hb]
    refine A3 ?_
    refine⟨_,rfl,wa,rfl,⟨_,hw⟩,for_tup (K:=K) (a:=wa) (xs:=r.map nV) (fun i σ H'=>H'=H∧(∀j,j<i→okH (r.getD j 0)=true)∧∃v2,σ=[some (.ref wa),some (nV r.length),v2]) ⟨rfl,fun j hj=>absurd hj (Nat.not_lt_zero _),none,rfl⟩ (fun i σ H' _ q=>by rw[q.1];exact hw) ?_ ?_⟩
    ·
     rintro i y σ H' hi ⟨rfl,hok,v2,rfl⟩
     obtain⟨hlt,rfl⟩:=map_nV_at hi
     have ht:=test (r.getD i 0)
     refine⟨_,rfl,_,_,rfl,rfl,_,rfl,?_⟩
     by_cases c1:((r.getD i 0:Nat):Int)<1
     ·
      rw[decide_eq_true c1]
      rw[decide_eq_true c1,Bool.true_or] at ht
      refine AY (AY ?_)
      have:okWay r.length r=false:=okWay_no hlt (by rw[←Bool.not_eq_true',←ht])
      rw[this] at k
      exact k
     ·
      rw[decide_eq_false c1]
      rw[decide_eq_false c1,Bool.false_or] at ht
      refine A3 ⟨_,rfl,_,_,rfl,rfl,_,rfl,?_⟩
      rw[ht]
      cases hz:okH (r.getD i 0) with
      |
       false=>
       refine AY ?_
       rw[okWay_no hlt hz] at k
       exact k
      |
       true=>
       refine A3 ⟨rfl,fun j hj=>?_,_,rfl⟩
       by_cases z:j=i
       ·
        rw[z];exact hz
       ·
        exact hok j (by omega)
    ·
     rintro σ H' ⟨rfl,hok,v2,rfl⟩
     rw[List.length_map] at hok
     obtain⟨e1,e2⟩:=okWay_yes hok
     rw[e1] at k
     exact⟨_,rfl,wa,r,rfl,.inr hw,e2,_,_,rfl,rfl,k⟩
   ·
    have hb:(!decide (V.int ((r.length:Nat):Int)=nV g))=true:=by
     rw[decide_eq_false (fun (z:V.int ((r.length:Nat):Int)=nV g)=>e (by have:=V.int.inj z;omega))];rfl
    rw[hb]
    refine AY ?_
    have:okWay g r=false:=by unfold okWay;rw[beq_eq_false_iff_ne.mpr e];rfl
    rw[this] at k
    exact k
end
end Wk
namespace Rb
theorem growR_len (w:List Nat)(k:Nat):(growR w k).length≤k:=by
 unfold growR
 exact Nat.le_trans (List.length_filter_le _ _) (by simp)
theorem growW_len (l:List (List Nat)):(growW l).length≤8*l.length:=by
 induction l with
 | nil=>simp[growW]
 |
  cons w l ih=>
  have e:growW (w::l)=growR w 8++growW l:=by unfold growW;rw[List.flatMap_cons]
  rw[e,List.length_append,List.length_cons]
  have:=growR_len w 8
  omega
theorem sum_castI (r:List Nat):(r.map fun n=>((n:Nat):Int)).sum=((r.sum:Nat):Int):=by
 induction r with
 | nil=>rfl
 | cons x r ih=>rw[List.map_cons,List.sum_cons,ih,List.sum_cons,Int.natCast_add]
end Rb
namespace Wk
open PySem PySem.Spec PyProof.Rows L2 Rb
section
variable {P:Program}{w:World}{K:PySem.W.Frag}{mg:Str→Option Value}{base:Heap}
theorem catU_any {H:Hp}{a b:Addr}{xs ys:List V}{Q:VK}(ha:SqT K H a xs)(hb:H b=some (.tup ys))(hy:ys≠[])(hz:xs.length+ys.length≤sizeLine)
  (k:∀q H',Ae H H'→H' q=some (.tup (xs++ys))→Q (.ref q) H'):rCatU K (.ref a) (.ref b) H Q:=
 ⟨a,b,xs,ys,rfl,rfl,ha,SqT.of hb,hy,hz,fun e=>k b H (Ae.refl _) (by rw[e];exact hb),fun _ q hq=>k q _ (Ae.upd hq) Ab⟩
def spOneMore:Sp:=fun vs H Q _=>∃(l:Addr) (ws:List (List Nat)),vs=[.ref l]∧LstAt AR H l ws∧ws.length≤100∧(∀x∈ws,x.length≤3∧∀y∈x,y≤8)∧∀(H':Hp) (g:Addr),Ae H H'→LstAt AR H' g (growW ws)→Q (.ref g) H'
theorem scOneMore:Aq ["ways","grown","way","held","longer"] ["ways"] (Ag sOneMore):=⟨rfl,rfl,rfl,by decide +kernel,rfl,by decide +kernel,by decide +kernel⟩
theorem ok_oneMore {f fC:Addr}{fd fdC:FuncData}{u8 u27:Value}(F:Fun K "one_room_more" "one_room_more" sOneMore f fd)(GC:Ah P w K mg base CX0 1 fC fdC ["way"] (spCount K))(bC:An K fdC ["way"] [])(kC:PySem.W.keepIn K (.ref fC)=true)(mC:mg "count_fillings"=some (.ref fC))
  (mR:mg "range"=none)(m8:mg "MOST_IN_A_ROOM"=some u8)(r8:AW (.int 8) u8)(m27:mg "MOST_FILLINGS"=some u27)(r27:AW (.int 27) u27):Ah P w K mg base CX0 2 f fd ["ways"] spOneMore:=by
 refine F.ok scOneMore (fun vs H Q E h=>?_) (fun cdv A outer s H vs Q E hr h=>?_)
 ·
  obtain⟨l,ws,rfl,_⟩:=h
  rfl
 ·
  obtain⟨l,ws,rfl,⟨ts,hts,hpt⟩,h100,hws,k⟩:=h
  refine⟨_,Ad (As (i:=1) scOneMore.nd rfl (Or.inl rfl) (AD Ac))<|
   Ad (ps_for PassesOwn.never rfl (A1 (pv 0)) (Au (i:=2) scOneMore.nd rfl (Or.inl rfl))<|
    Af (ps_for PassesOwn.never rfl (pi_range2 rfl mR (Aa Ao (Aa (AH op_add (Av rfl m8 r8) Ao) Ac))) (Au (i:=3) scOneMore.nd rfl (Or.inl rfl))<|
     Ad (As (i:=4) scOneMore.nd rfl (Or.inl rfl) (AH op_catU (pv 2) (A6 (Aa (pv 3) Ac))))<|
     Af (AN (AB op_le (Aw GC hr rfl mC kC bC .nil Ap (Aa (pv 4) Ac)) (Av rfl m27 r27) (AA _))
      (Af (ps_expr (pe_bm PySem.F.plainAttrs_list PySem.F.slot_list_append PySem.F.type_list_append mt_append (pv 1) (Aa (pv 4) Ac)))) Ax)))<|
   Af (Al (pv 1)),?_⟩
  refine⟨Nat.zero_le _,fun g hg=>?_⟩
  have M0:GMk AR H (upd H g (.lst [])) g (growW (ws.take 0)):=GMk.start (Ae.refl _) hg
  refine⟨_,rfl,l,rfl,⟨_,SqL.of (M0.same _ _ hts)⟩,for_list (K:=K) (a:=l) (xs:=ts.map V.ref) (fun j σ H'=>∃(v2 v3 v4:Option V),σ=[some (.ref l),some (.ref g),v2,v3,v4]∧GMk AR H H' g (growW (ws.take j)))
   ⟨none,none,none,rfl,M0⟩ (fun j σ H' _ q=>by obtain⟨_,_,_,_,M⟩:=q;exact SqL.of (M.same _ _ hts)) ?_ ?_⟩
  ·
   rintro j y σ H1 hj ⟨v2,v3,v4,rfl,M⟩
   obtain⟨t,ht,rfl⟩:=AL hj
   obtain⟨wy,hwy,hst⟩:=AF hpt ht
   have hwm:=hws _ (List.mem_of_getElem? hwy)
   have hgl:=growW_len (ws.take j)
   rw[List.length_take] at hgl
   refine⟨_,_,rfl,rfl,1,_,rfl,by decide,for_range (n:=8) (fun h σ H'=>∃(v3 v4:Option V),σ=[some (.ref l),some (.ref g),some (.ref t),v3,v4]∧GMk AR H H' g (growW (ws.take j)++growR wy h)) ⟨_,_,rfl,?_⟩ ?_ ?_⟩
   ·
    have e0:growR wy 0=[]:=rfl
    rw[e0,List.append_nil];exact M
   ·
    rintro h σ H2 hh ⟨v3,v4,rfl,M2⟩
    have hst2:=AR.mono _ _ _ _ (same_tup M2.same) hst
    have e1:(1:Int)+((h:Nat):Int)=((h+1:Nat):Int):=by omega
    rw[e1]
    have hb:(growW (ws.take j)++growR wy h).length<10000:=by
     rw[List.length_append]
     have:=growR_len wy h
     omega
    have le8:∀y∈wy++[h+1],y≤8:=fun y hy=>by
     rcases List.mem_append.mp hy with q | q
     ·
      exact hwm.2 y q
     ·
      rw[List.mem_singleton.mp q];omega
    refine⟨_,rfl,_,rfl,(by show 1≤sizeLine;decide),fun t1 ht1=>catU_any (SqT.of (Ae.upd ht1 _ _ hst2)) Ab (by simp) ?_ (fun q H4 s4' hq=>?_)⟩
    ·
     rw[List.length_map];show wy.length+1≤sizeLine
     exact Nat.le_of_lt (AC (by have:=hwm.1;omega))
    have s4:=Ae.trans (Ae.upd (o:=.tup [nV (h+1)]) ht1) s4'
    have hq':AR H4 q (wy++[h+1]):=by
     show _=_
     rw[hq,List.map_append];rfl
    refine⟨_,rfl,q,wy++[h+1],rfl,.inr (SqT.of hq'),le8,_,_,rfl,rfl,_,rfl,?_⟩
    have ed:decide (((prodW (wy++[h+1]):Nat):Int)≤27)=Su112.fits (wy++[h+1]):=by
     rw[fits_prod];apply decide_eq_decide.mpr;omega
    rw[ed]
    rw[growR_succ]
    cases hf:Su112.fits (wy++[h+1]) with
    |
     true=>
     refine AY ?_
     rw[if_pos rfl,←List.append_assoc]
     obtain⟨gs,a1,a2,a3,_⟩:=M2.grow AR.mono s4 hq' hb
     exact⟨_,rfl,.inl ⟨rfl,_,SqL.of a1⟩,_,rfl,g,gs,_,rfl,rfl,a1,a2,_,_,rfl,a3⟩
    |
     false=>
     refine A3 ?_
     rw[if_neg Bool.false_ne_true,List.append_nil]
     exact⟨_,_,rfl,Ae.trans M2.same s4,M2.new,LstAt.same AR.mono s4 M2.at_⟩
   ·
    rintro σ H2 ⟨v3,v4,rfl,M2⟩
    refine⟨_,_,_,rfl,?_⟩
    rw[growW_take hwy];exact M2
  ·
   rintro σ H2 ⟨v2,v3,v4,rfl,M⟩
   rw[List.length_map,hpt.length,List.take_length] at M
   exact⟨_,rfl,k _ g M.same M.at_⟩
def spWaysOf:Sp:=fun vs H Q _=>∃(g n:Nat),vs=[nV g,nV n]∧g≤3∧∀(H':Hp) (l:Addr),Ae H H'→LstAt AR H' l ((pyWays g).filter fun w=>w.sum==n)→Q (.ref l) H'
abbrev nWaysOf:List Str:=["rooms","room_for_all","ways","room","way"]
theorem scWaysOf:Aq nWaysOf ["rooms","room_for_all"] (Ag sWaysOf):=⟨rfl,rfl,rfl,by decide +kernel,rfl,by decide +kernel,by decide +kernel⟩
theorem ok_waysOf {f fM:Addr}{fd fdM:FuncData}(F:Fun K "ways_of" "ways_of" sWaysOf f fd)(GM:Ah P w K mg base CX0 2 fM fdM ["ways"] spOneMore)(bM:An K fdM ["ways"] [])(kM:PySem.W.keepIn K (.ref fM)=true)(mM:mg "one_room_more"=some (.ref fM))
  (mR:mg "range"=none)(mS:mg "sum"=none):Ah P w K mg base CX0 3 f fd ["rooms","room_for_all"] spWaysOf:=by
 refine F.ok scWaysOf (fun vs H Q E h=>?_) (fun cdv A outer s H vs Q E hr h=>?_)
 ·
  obtain⟨g,n,rfl,_⟩:=h
  rfl
 ·
  obtain⟨g,n,rfl,hg,k⟩:=h
  refine⟨_,Ad (As (i:=2) scWaysOf.nd rfl (Or.inl rfl) (AD (Aa (A6 Ac) Ac)))<|
   Ad (ps_for PassesOwn.never rfl (pi_range1 rfl mR (Aa (pv 0) Ac)) (Au (i:=3) scWaysOf.nd rfl (Or.inl rfl))<|
    Af (As (i:=2) scWaysOf.nd rfl (Or.inl rfl) (Aw GM hr rfl mM kM bM .nil Ap (Aa (pv 2) Ac))))<|
   Af (Al (pe_lc (own:=[("way",4)]) (g:=gName 4) rfl scWaysOf.nd (A1 (pv 2)) (A5 (by show blkC nWaysOf (Ag sWaysOf) _ _=true;decide +kernel))
    (fun _ _ _ _ _=>Au (i:=4) scWaysOf.nd rfl (Or.inl rfl) (.inr rfl)) (fun _ _ _ _ _=>pts_one (AB op_eq (Az (r:=rSumT K) (cr_sumT rfl) rfl mS (by decide +kernel) (Aa (pv 4) Ac)) (pv 1) (AA _))) (fun _ _ _ _ _=>pv 4))),?_⟩
  refine⟨by decide,fun t0 ht0=>⟨(by show 1≤sizeLine;decide),fun l0 hl0=>?_⟩⟩
  have s1:Ae H (upd (upd H t0 (.tup [])) l0 (.lst [.ref t0])):=Ae.trans (Ae.upd ht0) (Ae.upd hl0)
  have B0:LstAt AR (upd (upd H t0 (.tup [])) l0 (.lst [.ref t0])) l0 (pyWays 0):=⟨[t0],Ab,.cons (Ae.upd hl0 _ _ Ab) .nil⟩
  refine⟨_,rfl,_,rfl,(by show -(2^62:Int)≤((g:Nat):Int);omega),(by show ((g:Nat):Int)<2^62;omega),?_⟩
  rw[Int.toNat_natCast]
  refine for_range (n:=g) (fun i σ H'=>∃(l:Addr) (v3 v4:Option V),σ=[some (nV g),some (nV n),some (.ref l),v3,v4]∧Ae H H'∧LstAt AR H' l (pyWays i)) ⟨l0,none,none,rfl,s1,B0⟩ ?_ ?_
  ·
   rintro i σ H1 hi ⟨l,v3,v4,rfl,sm,B⟩
   obtain⟨f1,f2⟩:=ways_few (g:=i) (by omega)
   refine⟨_,rfl,l,pyWays i,rfl,B,f1,fun x hx=>⟨by have:=(f2 x hx).1;omega,fun y hy=>((f2 x hx).2 y hy).2⟩,fun H2 l2 s2 B2=>⟨l2,_,_,rfl,Ae.trans sm s2,B2⟩⟩
  ·
   rintro σ H1 ⟨l,v3,v4,rfl,sm,ts,hts,hpt⟩
   obtain⟨f1,f2⟩:=ways_few (g:=g) hg
   refine⟨_,rfl,l,rfl,⟨_,SqL.of hts⟩,fun D hD=>?_⟩
   refine lc_list (K:=K) (a:=l) (xs:=ts.map V.ref) (fun i H'=>GMk AR H1 H' D (((pyWays g).take i).filter fun w=>w.sum==n)) (GMk.start (Ae.refl _) hD) (fun i H' _ M=>SqL.of (M.same _ _ hts)) ?_ ?_
   ·
    rintro i x H2 hi M
    obtain⟨t,ht,rfl⟩:=AL hi
    obtain⟨wy,hwy,hst⟩:=AF hpt ht
    have hst2:=M.same _ _ hst
    refine⟨rfl,?_⟩
    refine⟨_,rfl,t,wy.map fun n=>((n:Nat):Int),rfl,by rw[ints_nV];exact SqT.of hst2,_,rfl,rfl,_,rfl,?_⟩
    have ed:decide (V.int (wy.map fun n=>((n:Nat):Int)).sum=nV n)=(wy.sum==n):=by
     rw[sum_castI,Bool.eq_iff_iff]
     unfold nV
     simp
     omega
    rw[ed,AJ hwy,List.filter_append]
    cases hf:(wy.sum==n) with
    |
     true=>
     refine AY ?_
     have e2:[wy].filter (fun w=>w.sum==n)=[wy]:=by rw[List.filter_cons,hf];rfl
     rw[e2]
     obtain⟨gs,a1,a2,a3,_⟩:=M.grow AR.mono (Ae.refl _) hst2 (by
      have:=List.length_filter_le (fun (w:List Nat)=>w.sum==n) ((pyWays g).take i)
      rw[List.length_take] at this;omega)
     exact⟨_,rfl,gs,a1,a2,a3⟩
    |
     false=>
     refine A3 ?_
     have e2:[wy].filter (fun w=>w.sum==n)=[]:=by rw[List.filter_cons,hf];rfl
     rw[e2,List.append_nil];exact M
   ·
    rintro H2 M
    rw[List.length_map,hpt.length,List.take_length] at M
    exact k _ D (Ae.trans sm M.same) M.at_
end
end Wk
namespace Rb
open PySu112
def AV (p:Int):Nat:=if p=2∨p=3∨p=11 then 2 else if p=1∨p=15 then 1 else 0
def hasRow (p:Int):Bool:=decide (p=0∨p=8∨p=9∨p=12)
theorem shape_cases {p:Int}{n k:Nat}(h:shape p=some (n,k)):(k=0∧hasRow p=false∧AV p=n)∨(k=1∧n=0∧hasRow p=true):=by
 have hp:0≤p∧p≤17:=by
  unfold shape at h
  refine⟨?_,?_⟩
  ·
   apply Classical.byContradiction
   intro q
   simp only[show ¬p=0 by omega,show ¬p=1 by omega,show ¬p=2 by omega,show ¬p=3 by omega,show ¬p=4 by omega,show ¬p=5 by omega,show ¬p=6 by omega,show ¬p=7 by omega,show ¬p=8 by omega,show ¬p=9 by omega,show ¬p=10 by omega,show ¬p=11 by omega,show ¬p=12 by omega,show ¬p=13 by omega,show ¬p=14 by omega,show ¬p=15 by omega,show ¬p=16 by omega,show ¬p=17 by omega,if_false] at h
   cases h
  ·
   apply Classical.byContradiction
   intro q
   simp only[show ¬p=0 by omega,show ¬p=1 by omega,show ¬p=2 by omega,show ¬p=3 by omega,show ¬p=4 by omega,show ¬p=5 by omega,show ¬p=6 by omega,show ¬p=7 by omega,show ¬p=8 by omega,show ¬p=9 by omega,show ¬p=10 by omega,show ¬p=11 by omega,show ¬p=12 by omega,show ¬p=13 by omega,show ¬p=14 by omega,show ¬p=15 by omega,show ¬p=16 by omega,show ¬p=17 by omega,if_false] at h
   cases h
 obtain⟨m,rfl⟩:=Int.eq_ofNat_of_zero_le hp.1
 have hm:m≤17:=by omega
 have all:∀m,m<18→(match shape ((m:Nat):Int) with | some (n,k)=>(k==0&&(!hasRow m)&&(AV m==n))||(k==1&&n==0&&hasRow m) | none=>true)=true:=by decide +kernel
 have:=all m (by omega)
 rw[h] at this
 simp only[Bool.or_eq_true,Bool.and_eq_true,beq_iff_eq,Bool.not_eq_true'] at this
 rcases this with ⟨⟨a,b⟩,c⟩ | ⟨⟨a,b⟩,c⟩
 ·
  exact .inl ⟨a,b,c⟩
 ·
  exact .inr ⟨a,b,c⟩
def pyCall (raw:List (List Int)):Int×List Int:=match raw with
 | [p::xs]=>(p,xs)
 | [p::_,row]=>(p,row)
 | _=>(0,[])
theorem call_step {f:Nat}{p:Int}{r:List Int}{raws:List (List (List Int))}(h:PyFlat.calls shape (f+1) (p::r)=some raws):
  ∃(raw:List (List Int)) (rest:List (List (List Int))) (t:List Int),raws=raw::rest∧PyFlat.calls shape f t=some rest∧
   (
    (hasRow p=false∧pyCall raw=(p,r.take (AV p))∧AV p≤r.length∧t=r.drop (AV p))∨
    (hasRow p=true∧∃(m:Nat) (r':List Int),r=((m:Nat):Int)::r'∧m≤r'.length∧pyCall raw=(p,r'.take m)∧t=r'.drop m)):=by
 simp only[PyFlat.calls] at h
 cases hc:PyFlat.call shape (p::r) with
 | none=>rw[hc] at h;cases h
 |
  some ct=>
  obtain⟨c,t⟩:=ct
  rw[hc] at h
  simp only at h
  cases hcs:PyFlat.calls shape f t with
  | none=>rw[hcs] at h;cases h
  |
   some cs=>
   rw[hcs] at h
   have hr:=(Option.some.inj h).symm
   refine⟨c,cs,t,hr,hcs,?_⟩
   simp only[PyFlat.call] at hc
   cases hs:shape p with
   | none=>rw[hs] at hc;cases hc
   |
    some nk=>
    obtain⟨n,k⟩:=nk
    rw[hs] at hc
    simp only at hc
    by_cases hl:r.length<n
    ·
     rw[if_pos hl] at hc;cases hc
    ·
     rw[if_neg hl] at hc
     rcases shape_cases hs with ⟨rfl,b,e⟩ | ⟨rfl,rfl,b⟩
     ·
      simp only[PyFlat.rows,Option.some.injEq,Prod.mk.injEq] at hc
      obtain⟨rfl,rfl⟩:=hc
      refine .inl ⟨b,?_,by omega,by rw[e]⟩
      rw[e];rfl
     ·
      rw[List.drop_zero] at hc
      cases r with
      | nil=>simp[PyFlat.rows,PyFlat.row] at hc
      |
       cons m r'=>
       by_cases hm:0≤m∧m.toNat≤r'.length
       ·
        simp only[PyFlat.rows,PyFlat.row,if_pos hm,Option.some.injEq,Prod.mk.injEq] at hc
        obtain⟨rfl,rfl⟩:=hc
        refine .inr ⟨b,m.toNat,r',by rw[Int.toNat_of_nonneg hm.1],hm.2,rfl,rfl⟩
       ·
        simp only[PyFlat.rows,PyFlat.row,if_neg hm] at hc
        cases hc
end Rb
namespace Wk
open PySem PySem.Spec PyProof.Rows L2 Rb
abbrev sCountP:Stmt:=top 64
abbrev sHasRow:Stmt:=top 65
abbrev sSplit:Stmt:=top 66
section
variable {P:Program}{w:World}{K:PySem.W.Frag}{mg:Str→Option Value}{base:Heap}
def Num (mg:Str→Option Value)(x:Str)(z:Int):Prop:=∃u,mg x=some u∧AW (.int z) u
structure RoomNums (mg:Str→Option Value):Prop where
 begin_:Num mg "BEGIN" 0
 total:Num mg "TOTAL" 1
 chance:Num mg "CHANCE" 2
 swap:Num mg "SWAP" 3
 of:Num mg "OF" 8
 place:Num mg "PLACE" 9
 need:Num mg "NEED" 11
 order:Num mg "ORDER" 12
 gain:Num mg "GAIN" 15
def spPlain:Sp:=fun vs H Q _=>∃(p:Int),vs=[.int p]∧∀H',Ae H H'→Q (nV (AV p)) H'
theorem scCountP:Aq ["number"] ["number"] (Ag sCountP):=⟨rfl,rfl,rfl,by decide +kernel,rfl,by decide +kernel,by decide +kernel⟩
theorem inV3 (p a b c:Int):inV (.int p) [.int a,.int b,.int c]=decide (p=a∨p=b∨p=c):=by
 rw[Bool.eq_iff_iff]
 simp[inV,eqV]
 constructor<;>(rintro (h | h | h)<;>simp[h])
theorem inV2 (p a b:Int):inV (.int p) [.int a,.int b]=decide (p=a∨p=b):=by
 rw[Bool.eq_iff_iff]
 simp[inV,eqV]
 constructor<;>(rintro (h | h)<;>simp[h])
theorem inV4 (p a b c d:Int):inV (.int p) [.int a,.int b,.int c,.int d]=decide (p=a∨p=b∨p=c∨p=d):=by
 rw[Bool.eq_iff_iff]
 simp[inV,eqV]
 constructor<;>(rintro (h | h | h | h)<;>simp[h])
theorem ok_countP {f:Addr}{fd:FuncData}(F:Fun K "count_plain" "count_plain" sCountP f fd)(N:RoomNums mg):Ah P w K mg base CX0 1 f fd ["number"] spPlain:=by
 obtain⟨u1,m1,r1⟩:=N.total
 obtain⟨u2,m2,r2⟩:=N.chance
 obtain⟨u3,m3,r3⟩:=N.swap
 obtain⟨u11,m11,r11⟩:=N.need
 obtain⟨u15,m15,r15⟩:=N.gain
 refine F.ok scCountP (fun vs H Q E h=>?_) (fun cdv A outer s H vs Q E hr h=>?_)
 ·
  obtain⟨p,rfl,_⟩:=h
  rfl
 ·
  obtain⟨p,rfl,k⟩:=h
  refine⟨_,Ad (AN (AB op_in_seq (pv 0) (A6 (Aa (Av rfl m2 r2) (Aa (Av rfl m3 r3) (Aa (Av rfl m11 r11) Ac)))) rfl) (Af (Al Ao)) Ax)<|
   Ad (AN (AB op_in_seq (pv 0) (A6 (Aa (Av rfl m1 r1) (Aa (Av rfl m15 r15) Ac))) rfl) (Af (Al Ao)) Ax)<|
   Af (Al Ao),?_⟩
  refine⟨_,rfl,(by show 3≤sizeLine;decide),fun t1 ht1=>⟨t1,_,rfl,.inr (SqT.of Ab),rfl,rfl,_,rfl,?_⟩⟩
  have s1:Ae H (upd H t1 (.tup [.int 2,.int 3,.int 11])):=Ae.upd ht1
  rw[if_neg Bool.false_ne_true,inV3]
  by_cases e1:p=2∨p=3∨p=11
  ·
   rw[decide_eq_true e1]
   refine AY ?_
   have q:=k _ s1
   have e:AV p=2:=by unfold AV;rw[if_pos e1]
   rw[e] at q;exact q
  ·
   rw[decide_eq_false e1]
   refine A3 ?_
   refine⟨_,rfl,(by show 2≤sizeLine;decide),fun t2 ht2=>⟨t2,_,rfl,.inr (SqT.of Ab),rfl,rfl,_,rfl,?_⟩⟩
   rw[if_neg Bool.false_ne_true,inV2]
   have q:=k _ (Ae.trans s1 (Ae.upd (o:=.tup [.int 1,.int 15]) ht2))
   by_cases e2:p=1∨p=15
   ·
    rw[decide_eq_true e2]
    refine AY ?_
    have e:AV p=1:=by unfold AV;rw[if_neg e1,if_pos e2]
    rw[e] at q;exact q
   ·
    rw[decide_eq_false e2]
    refine A3 ?_
    have e:AV p=0:=by unfold AV;rw[if_neg e1,if_neg e2]
    rw[e] at q;exact q
def spHasRow:Sp:=fun vs H Q _=>∃(p:Int),vs=[.int p]∧∀H',Ae H H'→Q (.bl (hasRow p)) H'
theorem scHasRow:Aq ["number"] ["number"] (Ag sHasRow):=⟨rfl,rfl,rfl,by decide +kernel,rfl,by decide +kernel,by decide +kernel⟩
theorem ok_hasRow {f:Addr}{fd:FuncData}(F:Fun K "has_row" "has_row" sHasRow f fd)(N:RoomNums mg):Ah P w K mg base CX0 1 f fd ["number"] spHasRow:=by
 obtain⟨u0,m0,r0⟩:=N.begin_
 obtain⟨u8,m8,r8⟩:=N.of
 obtain⟨u9,m9,r9⟩:=N.place
 obtain⟨u12,m12,r12⟩:=N.order
 refine F.ok scHasRow (fun vs H Q E h=>?_) (fun cdv A outer s H vs Q E hr h=>?_)
 ·
  obtain⟨p,rfl,_⟩:=h
  rfl
 ·
  obtain⟨p,rfl,k⟩:=h
  refine⟨_,Af (Al (pe_cmpR op_in_seq (pv 0) (A6 (Aa (Av rfl m0 r0) (Aa (Av rfl m8 r8) (Aa (Av rfl m9 r9) (Aa (Av rfl m12 r12) Ac))))) rfl)),?_⟩
  refine⟨_,rfl,(by show 4≤sizeLine;decide),fun t1 ht1=>⟨t1,_,rfl,.inr (SqT.of Ab),rfl,rfl,?_⟩⟩
  rw[if_neg Bool.false_ne_true,inV4]
  exact k _ (Ae.upd ht1)
end
end Wk
namespace Wk
open PySem PySem.Spec PyProof.Rows L2 Rb
def CallG (H0:Hp)(g:Addr)(H:Hp)(t:Addr)(x:Int×List Int):Prop:=t≠g∧∃ga,(ga≠g∧H0 ga=none)∧H t=some (.tup [.int x.1,.ref ga])∧H ga=some (.lst (x.2.map V.int))
theorem growX {α:Type}{R:Hp→Addr→α→Prop}{H0 H1 H2:Hp}{g t:Addr}{l:List α}{x:α}(m:∀(H H':Hp) (t:Addr) (x:α),(∀b o,b≠g→H b=some o→H' b=some o)→R H t x→R H' t x)(M:GMk R H0 H1 g l)(s:Ae H1 H2)(ht:R H2 t x)(hl:l.length<1000):
  ∃gs:List V,H2 g=some (.lst gs)∧gs.length<sizeLine∧GMk R H0 (upd H2 g (.lst (gs++[.ref t]))) g (l++[x]):=by
 obtain⟨ts,h1,h2⟩:=M.at_
 have e2:=s _ _ h1
 have kI:∀b o,b≠g→H2 b=some o→(upd H2 g (.lst (ts.map V.ref++[.ref t]))) b=some o:=fun b o hb e=>by rw[Ai hb];exact e
 refine⟨ts.map V.ref,e2,by rw[List.length_map,h2.length];exact AC (by omega),⟨fun b o e=>?_,M.new,ts++[t],by rw[Ab,List.map_append];rfl,Paired.snoc (Paired.mapP h2 fun t' y q=>m _ _ _ _ (fun b o hb e=>kI b o hb (s _ _ e)) q) (m _ _ _ _ kI ht)⟩⟩
 rw[Ai (Aj e M.new)];exact s _ _ (M.same _ _ e)
theorem callG_mono {H0:Hp}{g:Addr}(H H':Hp)(t:Addr)(x:Int×List Int)(k:∀b o,b≠g→H b=some o→H' b=some o)(h:CallG H0 g H t x):CallG H0 g H' t x:=by
 obtain⟨h1,ga,h2,h3,h4⟩:=h
 exact⟨h1,ga,h2,k _ _ h1 h3,k _ _ h2.1 h4⟩
theorem cut_nat (xs:List V){a b:Nat}(h1:a≤b)(h2:b≤xs.length):cutV xs (some ((a:Nat):Int)) (some ((b:Nat):Int))=(xs.drop a).take (b-a):=by
 unfold cutV
 have e1:min a xs.length=a:=by omega
 have e2:min b xs.length=b:=by omega
 rw[HT.sIx_nat,HT.sIx_nat,e1,e2]
theorem split_end {H H1 H3:Hp}{g ga t1:Addr}{drw:List (List (List Int))}{raw:List (List Int)}{p:Int}{given:List Int}(M:GMk (CallG H g) H H1 g (drw.map pyCall))(s:Ae H1 H3)(hga:H3 ga=none)
  (ht1:(upd H3 ga (.lst (given.map V.int))) t1=none)(hpc:pyCall raw=(p,given))(hl:drw.length<400):
  ∃gs:List V,(upd (upd H3 ga (.lst (given.map V.int))) t1 (.tup [.int p,.ref ga])) g=some (.lst gs)∧gs.length<sizeLine∧
   GMk (CallG H g) H (upd (upd (upd H3 ga (.lst (given.map V.int))) t1 (.tup [.int p,.ref ga])) g (.lst (gs++[.ref t1]))) g ((drw++[raw]).map pyCall):=by
 obtain⟨us,hus,_⟩:=M.at_
 have hg3:=s _ _ hus
 have n1:g≠ga:=Aj hg3 hga
 have n2:g≠t1:=Aj (Ae.upd hga _ _ hg3) ht1
 have sA:Ae H1 (upd (upd H3 ga (.lst (given.map V.int))) t1 (.tup [.int p,.ref ga])):=Ae.trans s (Ae.trans (Ae.upd hga) (Ae.upd ht1))
 obtain⟨gs,a1,a2,a3⟩:=growX (t:=t1) (x:=(p,given)) callG_mono M sA ⟨Ne.symm n2,ga,⟨Ne.symm n1,M.same.free (s.free hga)⟩,Ab,Ae.upd ht1 _ _ Ab⟩ (by rw[List.length_map];omega)
 refine⟨gs,a1,a2,?_⟩
 rw[List.map_append,List.map_cons,List.map_nil,hpc];exact a3
section
variable {P:Program}{w:World}{K:PySem.W.Frag}{mg:Str→Option Value}{base:Heap}
def spSplit (K:PySem.W.Frag):Sp:=fun vs H Q _=>∃(la:Addr) (l:List Int) (raws:List (List (List Int))),vs=[.ref la]∧SqL K H la (l.map V.int)∧PyFlat.calls PySu112.shape l.length l=some raws∧raws.length≤400∧
 ∀(H':Hp) (g:Addr),Ae H H'→H g=none→LstAt (CallG H g) H' g (raws.map pyCall)→Q (.ref g) H'
abbrev nSplit:List Str:=["calls","found","at","number","start","many"]
theorem scSplit:Aq nSplit ["calls"] (Ag sSplit):=⟨rfl,rfl,rfl,by decide +kernel,rfl,by decide +kernel,by decide +kernel⟩
def muSplit (n:Nat):L2.St→Hp→Nat:=fun σ _=>match σ with
 | [_,_,some (.int a),_,_,_]=>n-a.toNat
 | _=>0
theorem ok_split {f fP fR:Addr}{fd fdP fdR:FuncData}(F:Fun K "split_calls" "split_calls" sSplit f fd)(FP:Fun K "count_plain" "count_plain" sCountP fP fdP)(bP:An K fdP ["number"] [])(mP:mg "count_plain"=some (.ref fP))
  (FR:Fun K "has_row" "has_row" sHasRow fR fdR)(bR:An K fdR ["number"] [])(mR:mg "has_row"=some (.ref fR))(N:RoomNums mg)(mL:mg "len"=none):Ah P w K mg base CX0 2 f fd ["calls"] (spSplit K):=by
 have GP:Ah P w K mg base CX0 1 fP fdP ["number"] spPlain:=ok_countP FP N
 have GR:Ah P w K mg base CX0 1 fR fdR ["number"] spHasRow:=ok_hasRow FR N
 refine F.ok scSplit (fun vs H Q E h=>?_) (fun cdv A outer s H vs Q E hr h=>?_)
 ·
  obtain⟨la,l,raws,rfl,_⟩:=h
  rfl
 ·
  obtain⟨la,l,raws,rfl,hl,hp,h400,k⟩:=h
  refine⟨_,Ad (As (i:=1) scSplit.nd rfl (Or.inl rfl) (AD Ac))<|
   Ad (As (i:=2) scSplit.nd rfl (Or.inl rfl) Ao)<|
   Ad (ps_while PassesOwn.never (AB op_lt (pv 2) (Az (r:=rLenA K) At rfl mL PySem.boot_len (Aa (pv 0) Ac)) (AA _))<|
    Ad (As (i:=3) scSplit.nd rfl (Or.inl rfl) (AK AI (pv 0) (pv 2) (fun _ _=>rfl)))<|
    Ad (As (i:=4) scSplit.nd rfl (Or.inl rfl) (AH op_add (pv 2) Ao))<|
    Ad (As (i:=5) scSplit.nd rfl (Or.inl rfl) (Aw GP hr rfl mP FP.kp bP .nil Ap (Aa (pv 3) Ac)))<|
    Ad (AN (pt_val (Aw GR hr rfl mR FR.kp bR .nil Ap (Aa (pv 3) Ac))) (Ad (As (i:=5) scSplit.nd rfl (Or.inl rfl) (AK AI (pv 0) (pv 4) (fun _ _=>rfl))) (Af (As (i:=4) scSplit.nd rfl (Or.inl rfl) (AH op_add (pv 4) Ao)))) Ax)<|
    Ad (As (i:=2) scSplit.nd rfl (Or.inl rfl) (AH op_add (pv 4) (pv 5)))<|
    Af (ps_expr (pe_bm PySem.F.plainAttrs_list PySem.F.slot_list_append PySem.F.type_list_append mt_append (pv 1) (Aa (A6 (Aa (pv 3) (Aa (pe_slice sl_list (pv 0) (po_some (pv 4)) (po_some (pv 2))) Ac))) Ac))))<|
   Af (Al (pv 1)),?_⟩
  refine⟨Nat.zero_le _,fun g hg=>?_⟩
  have M0:GMk (CallG H g) H (upd H g (.lst [])) g []:=GMk.start (Ae.refl _) hg
  refine while_by (fun σ H'=>∃(dn rest:List Int) (fuel:Nat) (drw more:List (List (List Int))) (v3 v4 v5:Option V),σ=[some (.ref la),some (.ref g),some (nV dn.length),v3,v4,v5]∧l=dn++rest∧PyFlat.calls PySu112.shape fuel rest=some more∧raws=drw++more∧
    GMk (CallG H g) H H' g (drw.map pyCall)) (muSplit l.length) ⟨[],l,l.length,[],raws,none,none,none,rfl,rfl,hp,rfl,M0⟩ ?_ ?_
  ·
   rintro σ H1 ⟨dn,rest,fuel,drw,more,v3,v4,v5,rfl,hl1,hc,hrw,M⟩
   have hq:=Ae.seq M.same hl
   refine⟨_,rfl,_,rfl,la,_,rfl,.inl hq,_,_,rfl,rfl,_,rfl,?_⟩
   have hlen:l.length=dn.length+rest.length:=by rw[hl1,List.length_append]
   rw[List.length_map]
   cases rest with
   |
    nil=>
    have hb:decide (((dn.length:Nat):Int)<((l.length:Nat):Int))=false:=by
     apply decide_eq_false;rw[hlen];simp
    rw[hb]
    refine A3 ?_
    have hm:more=[]:=by
     have:PyFlat.calls PySu112.shape fuel []=some []:=by cases fuel<;>rfl
     rw[this] at hc;exact (Option.some.inj hc).symm
    rw[hm,List.append_nil] at hrw
    rw[←hrw] at M
    exact⟨_,rfl,k _ g M.same M.new M.at_⟩
   |
    cons p r=>
    have hb:decide (((dn.length:Nat):Int)<((l.length:Nat):Int))=true:=by
     apply decide_eq_true;rw[hlen,List.length_cons];omega
    rw[hb]
    refine AY ?_
    cases fuel with
    | zero=>simp[PyFlat.calls] at hc
    |
     succ fuel=>
     obtain⟨raw,rest',t,hmore,hc',hcase⟩:=call_step hc
     have hat:atI (l.map V.int) ((dn.length:Nat):Int)=some (.int p):=atI_nat (by rw[hl1];simp)
     have e1:((dn.length:Nat):Int)+1=((dn.length+1:Nat):Int):=by omega
     obtain⟨gs0,hgs1,_⟩:=M.at_
     refine⟨_,rfl,_,rfl,la,_,_,_,rfl,rfl,hq,hat,?_⟩
     refine⟨_,rfl,_,_,rfl,rfl,?_⟩
     refine⟨_,rfl,p,rfl,fun H2 s2=>?_⟩
     refine⟨_,rfl,p,rfl,fun H3 s3=>⟨_,rfl,?_⟩⟩
     have s3':=Ae.trans s2 s3
     rcases hcase with ⟨hn,hpc,hle,ht⟩ | ⟨hn,m,r',hr1,hm,hpc,ht⟩
     ·
      rw[hn]
      refine A3 ?_
      refine⟨_,rfl,_,rfl,_,_,rfl,rfl,?_⟩
      have eb:((dn.length:Nat):Int)+1+((AV p:Nat):Int)=((dn.length+1+AV p:Nat):Int):=by omega
      rw[List.length_cons] at hlen
      have hdrop:l.drop (dn.length+1+AV p)=r.drop (AV p):=by
       rw[hl1,List.drop_append,List.drop_eq_nil_of_le (by omega),List.nil_append,show dn.length+1+AV p-dn.length=AV p+1 by omega];rfl
      have ecut:cutV (l.map V.int) (some (((dn.length:Nat):Int)+1)) (some (((dn.length:Nat):Int)+1+((AV p:Nat):Int)))=(r.take (AV p)).map V.int:=by
       rw[eb,e1,cut_nat _ (by omega) (by rw[List.length_map];omega),←List.map_drop,←List.map_take,hl1,List.drop_append,List.drop_eq_nil_of_le (by omega),List.nil_append,
        show dn.length+1-dn.length=1 by omega,show dn.length+1+AV p-(dn.length+1)=AV p by omega];rfl
      refine⟨_,rfl,.inl ⟨rfl,_,SqL.of (s3' _ _ hgs1)⟩,_,rfl,_,rfl,_,rfl,_,rfl,_,rfl,_,rfl,la,_,rfl,Ae.seq s3' hq,fun ga hga=>?_⟩
      rw[ecut]
      refine⟨(by show 2≤sizeLine;decide),fun t1 ht1=>?_⟩
      obtain⟨gs,g1,g2,g3⟩:=split_end (raw:=raw) M s3' hga ht1 hpc (by have:=congrArg List.length hrw;rw[hmore,List.length_append,List.length_cons] at this;omega)
      refine⟨g,gs,_,rfl,rfl,g1,g2,⟨l.take (dn.length+1+AV p),r.drop (AV p),fuel,drw++[raw],rest',some (.int p),some (.int (((dn.length:Nat):Int)+1)),some (nV (AV p)),?_,?_,?_,?_,g3⟩,?_⟩
      ·
       rw[List.length_take,Nat.min_eq_left (by omega)]
       show [some (V.ref la),some (V.ref g),some (V.int (((dn.length:Nat):Int)+1+((AV p:Nat):Int))),some (V.int p),some (V.int (((dn.length:Nat):Int)+1)),some (nV (AV p))]=_
       rw[eb];rfl
      ·
       rw[←hdrop,List.take_append_drop]
      ·
       rw[←ht];exact hc'
      ·
       rw[hrw,hmore,List.append_assoc];rfl
      ·
       show l.length-(((dn.length:Nat):Int)+1+((AV p:Nat):Int)).toNat<l.length-(((dn.length:Nat):Int)).toNat
       rw[eb,Int.toNat_natCast,Int.toNat_natCast];omega
     ·
      rw[hn]
      refine AY ?_
      rw[List.length_cons,hr1,List.length_cons] at hlen
      have hat2:atI (l.map V.int) (((dn.length:Nat):Int)+1)=some (nV m):=by
       rw[e1]
       refine atI_nat ?_
       rw[List.getElem?_map,hl1,hr1,List.getElem?_append_right (by omega),show dn.length+1-dn.length=1 by omega];rfl
      refine⟨_,rfl,_,rfl,la,_,_,_,rfl,rfl,Ae.seq s3' hq,hat2,?_⟩
      refine⟨_,rfl,_,_,rfl,rfl,?_⟩
      refine⟨_,rfl,_,rfl,_,_,rfl,rfl,?_⟩
      have e2:((dn.length:Nat):Int)+1+1=((dn.length+2:Nat):Int):=by omega
      have eb:((dn.length:Nat):Int)+1+1+((m:Nat):Int)=((dn.length+2+m:Nat):Int):=by omega
      have hdrop:l.drop (dn.length+2+m)=r'.drop m:=by
       rw[hl1,hr1,List.drop_append,List.drop_eq_nil_of_le (by omega),List.nil_append,show dn.length+2+m-dn.length=m+1+1 by omega];rfl
      have ecut:cutV (l.map V.int) (some (((dn.length:Nat):Int)+1+1)) (some (((dn.length:Nat):Int)+1+1+((m:Nat):Int)))=(r'.take m).map V.int:=by
       rw[eb,e2,cut_nat _ (by omega) (by rw[List.length_map];omega),←List.map_drop,←List.map_take,hl1,hr1,List.drop_append,List.drop_eq_nil_of_le (by omega),List.nil_append,
        show dn.length+2-dn.length=2 by omega,show dn.length+2+m-(dn.length+2)=m by omega];rfl
      refine⟨_,rfl,.inl ⟨rfl,_,SqL.of (s3' _ _ hgs1)⟩,_,rfl,_,rfl,_,rfl,_,rfl,_,rfl,_,rfl,la,_,rfl,Ae.seq s3' hq,fun ga hga=>?_⟩
      rw[ecut]
      refine⟨(by show 2≤sizeLine;decide),fun t1 ht1=>?_⟩
      obtain⟨gs,g1,g2,g3⟩:=split_end (raw:=raw) M s3' hga ht1 hpc (by have:=congrArg List.length hrw;rw[hmore,List.length_append,List.length_cons] at this;omega)
      refine⟨g,gs,_,rfl,rfl,g1,g2,⟨l.take (dn.length+2+m),r'.drop m,fuel,drw++[raw],rest',some (.int p),some (.int (((dn.length:Nat):Int)+1+1)),some (nV m),?_,?_,?_,?_,g3⟩,?_⟩
      ·
       rw[List.length_take,Nat.min_eq_left (by omega)]
       show [some (V.ref la),some (V.ref g),some (V.int (((dn.length:Nat):Int)+1+1+((m:Nat):Int))),some (V.int p),some (V.int (((dn.length:Nat):Int)+1+1)),some (nV m)]=_
       rw[eb];rfl
      ·
       rw[←hdrop,List.take_append_drop]
      ·
       rw[←ht];exact hc'
      ·
       rw[hrw,hmore,List.append_assoc];rfl
      ·
       show l.length-(((dn.length:Nat):Int)+1+1+((m:Nat):Int)).toNat<l.length-(((dn.length:Nat):Int)).toNat
       rw[eb,Int.toNat_natCast,Int.toNat_natCast];omega
  ·
   rintro σ H' Q1 Q2 hq ⟨x,h1,y,h2,p,ys,h3,h4,i,j,h5,h6,k',h7,h8⟩
   exact⟨x,h1,y,h2,p,ys,h3,h4,i,j,h5,h6,k',h7,hq _ _ h8⟩
end
end Wk
namespace Wk
open PySem PySem.Spec PyProof.Rows L2 Rb
def clsBody:Stmt→List Stmt
 | .ClassDef _ _ _ b ..=>b
 | _=>[]
def mthOf (c:Stmt)(n:Str):Stmt:=((clsBody c).find? fun s=>match s with
 | .FunctionDef m ..=>m==n
 | _=>false).getD (.Pass ⟨0,0,0,0⟩)
def sClsB:Stmt:=top 31
def sCls:Stmt:=top 45
def mthB (n:Str):Stmt:=mthOf sClsB n
def mth (n:Str):Stmt:=mthOf sCls n
abbrev sBringsB:Stmt:=mthB "brings"
def Ak (H H':Hp):Prop:=∀b o,H b=some o→(∀ps,o≠.tbl ps)→(∀φ,o≠.ext φ)→H' b=some o
theorem Ak.refl (H:Hp):Ak H H:=fun _ _ e _ _=>e
theorem Ak.of {H H':Hp}(s:Ae H H'):Ak H H':=fun b o e _ _=>s b o e
theorem Ak.ofT {tb:Addr}{pos:Pos}{q:Str}{H H':Hp}(t:Tab tb pos q H)(s:A8 tb H H'):Ak H H':=fun b o e h _=>by
 obtain⟨ps,hP,_⟩:=t.ex
 exact s b o e fun z=>by rw[z,hP] at e;exact h ps (Option.some.inj e).symm
theorem Ak.trans {H H1 H2:Hp}(a:Ak H H1)(b:Ak H1 H2):Ak H H2:=fun c o e h h'=>b c o (a c o e h h') h h'
theorem Ak.ext {H:Hp}{a:Addr}{φ:Heap→Prop}{o:HO}(e:H a=some (.ext φ)):Ak H (upd H a o):=fun b u q _ h=>by
 rw[Ai (fun z=>by rw[z,e] at q;exact h φ (Option.some.inj q).symm)];exact q
theorem Ak.lst {H H':Hp}(k:Ak H H'){a:Addr}{xs:List V}(h:H a=some (.lst xs)):H' a=some (.lst xs):=k a _ h (fun _ z=>by cases z) (fun _ z=>by cases z)
theorem Ak.tup {H H':Hp}(k:Ak H H'){a:Addr}{xs:List V}(h:H a=some (.tup xs)):H' a=some (.tup xs):=k a _ h (fun _ z=>by cases z) (fun _ z=>by cases z)
theorem Ak.ins {H H':Hp}(k:Ak H H'){a C dx:Addr}{fs:List (Str×V)}(h:H a=some (.ins C dx fs)):H' a=some (.ins C dx fs):=k a _ h (fun _ z=>by cases z) (fun _ z=>by cases z)
theorem Ak.nest {H H':Hp}(k:Ak H H'){a:Addr}{ks:List (List Key)}(h:NestAt H a ks):NestAt H' a ks:=by
 obtain⟨bs,h1,h2⟩:=h
 exact⟨bs,k.tup h1,Paired.mapP h2 fun b x q=>k.tup q⟩
theorem Ak.fr {H H':Hp}(k:Ak H H'){p:Addr}{f:Su111.Fr}(h:FrAt H p f):FrAt H' p f:=k.tup h
theorem Ak.way {K:PySem.W.Frag}{H H':Hp}(k:Ak H H'){a:Addr}{r:List Nat}(h:WayAt K H a r):WayAt K H' a r:=by
 rcases h with ((h | ⟨o,h⟩) | h) | h
 ·
  exact .inl (.inl (.inl (k.lst h)))
 ·
  exact .inl (.inl (.inr ⟨o,k _ _ h (fun _ z=>by cases z) (fun _ z=>by cases z)⟩))
 ·
  exact .inl (.inr h)
 ·
  exact .inr (k.tup h)
def lineF (ca:Addr)(n:Nat)(ba:Addr):List (Str×V):=[("chances",.ref ca),("room_for_all",nV n),("brought",.ref ba)]
def BrOk (H:Hp)(kvs:NK):Prop:=∀q∈kvs,∃c r:List Nat,q.1=[A7 c,A7 r]∧FrAt H q.2.2 (Su112.rate c r)∧Small (Su112.rate c r)
structure Bo (P:Program)(w:World)(tb CB br:Addr)(H:Hp)(m:Nat):Prop where
 tab:Tab tb lPos lQual H
 ex:∃(dx ba:Addr) (kvs:NK),H br=some (.ins CB dx [("known",.ref ba)])∧DictN P w H ba kvs∧BrOk H kvs∧kvs.length≤m
structure Ln (P:Program)(w:World)(tb CB x C dx ca br:Addr)(H:Hp)(c:List Nat)(n m:Nat):Prop where
 ins:H x=some (.ins C dx (lineF ca n br))
 ch:H ca=some (.lst (c.map nV))
 bo:Bo P w tb CB br H m
theorem BrOk.keep {H H':Hp}(k:Ak H H'){kvs:NK}(b:BrOk H kvs):BrOk H' kvs:=fun q hq=>by
 obtain⟨c,r,e,f,s⟩:=b q hq
 exact⟨c,r,e,k.fr f,s⟩
theorem dictN_keep {P:Program}{w:World}{H H':Hp}(k:Ak H H'){a:Addr}{kvs:NK}(h:H' a=some (.ext (dNo P w a kvs)))(d:DictN P w H a kvs):DictN P w H' a kvs:=
 ⟨h,fun q hq=>k.nest (d.keys q hq)⟩
theorem Bo.same {P:Program}{w:World}{tb CB br:Addr}{H H':Hp}{m:Nat}(B:Bo P w tb CB br H m)(s:Ae H H'):Bo P w tb CB br H' m:=by
 obtain⟨dx,ba,kvs,h1,d,b,l⟩:=B.ex
 exact⟨B.tab.same s,dx,ba,kvs,s _ _ h1,dictN_keep (Ak.of s) (s _ _ d.at_) d,b.keep (Ak.of s),l⟩
theorem Bo.more {P:Program}{w:World}{tb CB br:Addr}{H:Hp}{m m':Nat}(B:Bo P w tb CB br H m)(h:m≤m'):Bo P w tb CB br H m':=by
 obtain⟨dx,ba,kvs,h1,d,b,l⟩:=B.ex
 exact⟨B.tab,dx,ba,kvs,h1,d,b,Nat.le_trans l h⟩
theorem Bo.frame {P:Program}{w:World}{tb CB br:Addr}{H H':Hp}{m:Nat}(B:Bo P w tb CB br H m)
  (fr:∀b o,H b=some o→(∀xs,o≠.lst xs)→(∀C dx fs,o=.ins C dx fs→fs.length≠3)→H' b=some o):Bo P w tb CB br H' m:=by
 obtain⟨dx,ba,kvs,h1,d,bk,l⟩:=B.ex
 obtain⟨ps,t1,t2,t3⟩:=B.tab.ex
 have tup:∀b xs,H b=some (.tup xs)→H' b=some (.tup xs):=fun b xs e=>fr b _ e (fun _ z=>by cases z) (fun _ _ _ z=>by cases z)
 have ext:∀b φ,H b=some (.ext φ)→H' b=some (.ext φ):=fun b xs e=>fr b _ e (fun _ z=>by cases z) (fun _ _ _ z=>by cases z)
 refine⟨⟨ps,fr _ _ t1 (fun _ z=>by cases z) (fun _ _ _ z=>by cases z),t2,?_⟩,dx,ba,kvs,fr _ _ h1 (fun _ z=>by cases z) (fun _ _ fs z=>by cases z;show 1≠3;decide),⟨ext _ _ d.at_,fun q hq=>?_⟩,fun q hq=>?_,l⟩
 ·
  rcases t3 with z | ⟨cc,z,e⟩
  ·
   exact .inl z
  ·
   exact .inr ⟨cc,z,ext _ _ e⟩
 ·
  obtain⟨bs,e1,e2⟩:=d.keys q hq
  exact⟨bs,tup _ _ e1,Paired.mapP e2 fun b x q=>tup _ _ q⟩
 ·
  obtain⟨c1,r1,e,f,sm⟩:=bk q hq
  exact⟨c1,r1,e,tup _ _ f,sm⟩
theorem Ln.same {P:Program}{w:World}{tb CB x C dx ca ba:Addr}{H H':Hp}{c:List Nat}{n m:Nat}(L:Ln P w tb CB x C dx ca ba H c n m)(s:Ae H H'):Ln P w tb CB x C dx ca ba H' c n m:=
 ⟨s _ _ L.ins,s _ _ L.ch,L.bo.same s⟩
theorem Ln.keep {P:Program}{w:World}{tb CB x C dx ca ba:Addr}{H H':Hp}{c:List Nat}{n m m':Nat}(L:Ln P w tb CB x C dx ca ba H c n m)(k:Ak H H')(B:Bo P w tb CB ba H' m'):Ln P w tb CB x C dx ca ba H' c n m':=
 ⟨k.ins L.ins,k.lst L.ch,B⟩
theorem atN_some {kvs:NK}{ks:List (List Key)}{p:Addr}(h:atN kvs ks=some p):∃q∈kvs,q.1=ks∧q.2.2=p:=by
 unfold atN at h
 obtain⟨q,hq,e⟩:=Option.map_eq_some_iff.mp h
 have h2:=List.find?_some (p:=fun (x:List (List Key)×Addr×Addr)=>decide (x.1=ks)) hq
 exact⟨q,List.mem_of_find?_eq_some hq,of_decide_eq_true h2,e⟩
theorem atN_snoc {kvs:NK}{ks:List (List Key)}{b p:Addr}(h:atN kvs ks=none):atN (kvs++[(ks,b,p)]) ks=some p:=by
 unfold atN at h ⊢
 rw[Option.map_eq_none_iff] at h
 rw[List.find?_append,h];simp
theorem crec_ne {P:Program}{w:World}{q:Str}{a:Addr}{kvs:NK}:crec q a≠dNo P w a kvs:=fun e=>by
 have hz:(⟨Array.replicate a {cls:=.none,data:=.fields #[]},{}⟩:Heap).objs.size=a:=by simp
 have g:((⟨Array.replicate a {cls:=.none,data:=.fields #[]},{}⟩:Heap).push {cls:=.none,data:=.fields #[.none,.str q 0]}).get? a=some {cls:=.none,data:=.fields #[.none,.str q 0]}:=by
  have:=Heap.get?_push_size (⟨Array.replicate a {cls:=.none,data:=.fields #[]},{}⟩:Heap) (o:={cls:=.none,data:=.fields #[.none,.str q 0]}) rfl
  rw[hz] at this;exact this
 have x:crec q a ((⟨Array.replicate a {cls:=.none,data:=.fields #[]},{}⟩:Heap).push {cls:=.none,data:=.fields #[.none,.str q 0]}):=⟨a,_,_,0,rfl,g,rfl,rfl⟩
 rw[e] at x
 obtain⟨_,_,o,es,ep,g2,_,d,_⟩:=x
 rw[g] at g2
 have:=Option.some.inj g2
 rw[←this] at d
 cases d
theorem tab_upd {P:Program}{w:World}{tb a:Addr}{H:Hp}{kvs:NK}{o:HO}(t:Tab tb lPos lQual H)(d:H a=some (.ext (dNo P w a kvs))):Tab tb lPos lQual (upd H a o):=by
 obtain⟨ps,h1,h2,h3⟩:=t.ex
 refine⟨ps,by rw[Ai (fun z=>by rw[z,d] at h1;cases h1)];exact h1,h2,?_⟩
 rcases h3 with h | ⟨c,h,e⟩
 ·
  exact .inl h
 ·
  refine .inr ⟨c,h,?_⟩
  rw[Ai (fun z=>by
   rw[z,d] at e
   have e2:=Option.some.inj e
   have e3:dNo P w a kvs=crec lQual a:=by injection e2
   exact crec_ne e3.symm)]
  exact e
def rTupOf (K:PySem.W.Frag):List V→Hp→VK→Prop:=fun xs H Q=>∃p ys,xs=[V.ref p]∧((SqL K H p ys∧∀l,H l=none→Q (.ref l) (upd H l (.tup ys)))∨(SqT K H p ys∧Q (.ref p) H))
theorem tuple_way {K:PySem.W.Frag}{H:Hp}{wa:Addr}{r:List Nat}{Q:VK}(hw:WayAt K H wa r)(k:∀t H',Ae H H'→AR H' t r→Q (.ref t) H'):
  rTupOf K [V.ref wa] H Q:=by
 rcases hw with hw | hw
 ·
  exact⟨wa,_,rfl,.inl ⟨hw,fun l hl=>k l _ (Ae.upd hl) Ab⟩⟩
 ·
  exact⟨wa,_,rfl,.inr ⟨SqT.of hw,k wa H (Ae.refl _) hw⟩⟩
section
variable {P:Program}{w:World}{K:PySem.W.Frag}{mg:Str→Option Value}{base:Heap}
structure AO (K:PySem.W.Frag)(C:Addr):Prop where
 cls:Cls K C
 nC:NoAttr K C "chances"
 nR:NoAttr K C "room_for_all"
 nB:NoAttr K C "brought"
structure ClsEnvB (K:PySem.W.Frag)(CB:Addr):Prop where
 cls:Cls K CB
 nK:NoAttr K CB "known"
def spBrB (P:Program)(w:World)(K:PySem.W.Frag)(tb CB:Addr):Sp:=fun vs H Q _=>∃(br ca wa:Addr) (c r:List Nat) (m:Nat),vs=[.ref br,.ref ca,.ref wa]∧Bo P w tb CB br H m∧WayAt K H ca c∧WayAt K H wa r∧Fine c r∧m<10000000∧
 ∀(H':Hp) (p:Addr),Ak H H'→Bo P w tb CB br H' (m+1)→FrAt H' p (Su112.rate c r)→Small (Su112.rate c r)→Q (.ref p) H'
theorem scBringsB:Aq ["self","chances","way","asked"] ["self","chances","way"] (Ag sBringsB):=⟨rfl,rfl,rfl,by decide +kernel,rfl,by decide +kernel,by decide +kernel⟩
theorem ok_bringsB {f tb CB fP:Addr}{fd fdP:FuncData}(F:Fun K "brings" "Brought.brings" sBringsB f fd)(CE:ClsEnvB K CB)
  (GP:Ah P w K mg base CX0 5 fP fdP ["chances","way"] (spPieces K tb))(bP:An K fdP ["chances","way"] [])(kP:PySem.W.keepIn K (.ref fP)=true)(mP:mg "pieces_an_hour"=some (.ref fP))(mT:mg "tuple"=none):
  Ah P w K mg base CX0 6 f fd ["self","chances","way"] (spBrB P w K tb CB):=by
 refine F.ok scBringsB (fun vs H Q E h=>?_) (fun cdv A outer s H vs Q E hr h=>?_)
 ·
  obtain⟨br,ca,wa,c,r,m,rfl,_⟩:=h
  rfl
 ·
  obtain⟨br,ca,wa,c,r,m,rfl,B,hc,hw,hF,hm,k⟩:=h
  have hu:(A.deeper (envOfC "Brought.brings" (Ag sBringsB) s.heap.objs.size f cdv)).units+30<cLine:=by have:=hr.un;omega
  refine⟨_,Ad (As (i:=3) scBringsB.nd rfl (Or.inl rfl) (A6 (Aa (A2 (r:=rTupOf K) call_tuple_of rfl mT (by decide +kernel) (Aa (pv 1) Ac)) (Aa (A2 (r:=rTupOf K) call_tuple_of rfl mT (by decide +kernel) (Aa (pv 2) Ac)) Ac))))<|
   Ad (AN (pt_cmp (pc_nnotin hu (pv 3) (AE (pv 0) rfl))) (Af (ps_nput hu (AE (pv 0) rfl) (pv 3) (Aw GP hr rfl mP kP bP .nil Ap (Aa (pv 1) (Aa (pv 2) Ac))) rfl)) Ax)<|
   Af (Al (pe_nget hu (AE (pv 0) rfl) (pv 3) (fun _ _=>rfl))),?_⟩
  refine⟨_,rfl,?_⟩
  dsimp only[tNil]
  refine tuple_way hc (fun t1 H1 s1 ht1=>?_)
  refine⟨_,rfl,?_⟩
  dsimp only[tNil]
  refine tuple_way (hw.same s1) (fun t2 H2 s2 ht2=>⟨(by show 2≤sizeLine;decide),fun a ha=>?_⟩)
  have s3:Ae H2 (upd H2 a (.tup [.ref t1,.ref t2])):=Ae.upd ha
  have sA:=Ae.trans s1 (Ae.trans s2 s3)
  have B3:=B.same sA
  have hw3:=hw.same sA
  have hc3:=hc.same sA
  have N3:NestAt (upd H2 a (.tup [.ref t1,.ref t2])) a [A7 c,A7 r]:=⟨[t1,t2],Ab,.cons (s3 _ _ (s2 _ _ (by rw[keyOf_kV];exact ht1))) (.cons (s3 _ _ (by rw[keyOf_kV];exact ht2)) .nil)⟩
  generalize (upd H2 a (.tup [.ref t1,.ref t2]))=H3 at s3 sA B3 hw3 hc3 N3 ⊢
  obtain⟨dx,ba,kvs,hins,d,b,hl⟩:=B3.ex
  refine⟨_,rfl,_,rfl,br,CB,dx,_,_,rfl,hins,CE.cls,CE.nK,rfl,ba,a,kvs,_,rfl,rfl,d,N3,_,rfl,?_⟩
  cases hn:atN kvs [A7 c,A7 r] with
  |
   some p=>
   refine A3 ?_
   obtain⟨q,hq,e1,e2⟩:=atN_some hn
   obtain⟨c',r',e3,fr,sm⟩:=b q hq
   rw[e1] at e3
   injection e3 with z1 z2
   injection z2 with z2 _
   have y1:=keyOf_inj z1
   have y2:=keyOf_inj z2
   subst y1 y2
   rw[e2] at fr
   exact⟨_,rfl,br,CB,dx,_,_,rfl,hins,CE.cls,CE.nK,rfl,_,rfl,ba,a,kvs,_,p,rfl,rfl,d,N3,hn,k H3 p (Ak.of sA) (B3.more (by omega)) fr sm⟩
  |
   none=>
   refine AY ?_
   refine⟨_,rfl,_,rfl,ca,wa,c,r,rfl,hc3.sq,hw3,hF,B3.tab,fun H4 p sT tb4 fr sm=>?_⟩
   have k4:=Ak.ofT B3.tab sT
   obtain⟨ps,hP,_⟩:=B3.tab.ex
   have d4:DictN P w H4 ba kvs:=dictN_keep k4 (sT _ _ d.at_ (fun z=>by rw[←z] at hP;rw[d.at_] at hP;cases hP)) d
   refine⟨_,rfl,br,CB,dx,_,_,rfl,k4.ins hins,CE.cls,CE.nK,rfl,_,rfl,ba,a,p,kvs,_,rfl,rfl,rfl,d4,k4.nest N3,hn,Nat.lt_of_le_of_lt hl (Nat.lt_trans hm (by decide)),?_⟩
   have k5:Ak H4 (upd H4 ba (.ext (dNo P w ba (kvs++[([A7 c,A7 r],a,p)])))):=Ak.ext d4.at_
   have tb5:Tab tb lPos lQual (upd H4 ba (.ext (dNo P w ba (kvs++[([A7 c,A7 r],a,p)])))):=tab_upd tb4 d4.at_
   have at5:(upd H4 ba (.ext (dNo P w ba (kvs++[([A7 c,A7 r],a,p)])))) ba=some (.ext (dNo P w ba (kvs++[([A7 c,A7 r],a,p)]))):=Ab
   have k35:=Ak.trans k4 k5
   have d5:DictN P w (upd H4 ba (.ext (dNo P w ba (kvs++[([A7 c,A7 r],a,p)])))) ba (kvs++[([A7 c,A7 r],a,p)]):=⟨at5,fun q hq=>by
    rcases List.mem_append.mp hq with z | z
    ·
     exact k35.nest (d.keys q z)
    ·
     rw[List.mem_singleton.mp z];exact k35.nest N3⟩
   have b5:BrOk (upd H4 ba (.ext (dNo P w ba (kvs++[([A7 c,A7 r],a,p)])))) (kvs++[([A7 c,A7 r],a,p)]):=fun q hq=>by
    rcases List.mem_append.mp hq with z | z
    ·
     exact (b.keep k35) q z
    ·
     rw[List.mem_singleton.mp z];exact⟨c,r,rfl,k5.fr fr,sm⟩
   exact⟨_,rfl,br,CB,dx,_,_,rfl,k35.ins hins,CE.cls,CE.nK,rfl,_,rfl,ba,a,_,_,p,rfl,rfl,d5,k35.nest N3,atN_snoc hn,
    k (upd H4 ba (.ext (dNo P w ba (kvs++[([A7 c,A7 r],a,p)])))) p (Ak.trans (Ak.of sA) k35) ⟨tb5,dx,ba,_,k35.ins hins,d5,b5,by rw[List.length_append];show kvs.length+1≤m+1;omega⟩ (k5.fr fr) sm⟩
end
end Wk
namespace Wk
open PySem PySem.Spec PyProof.Rows L2 Rb
abbrev sIsCh:Stmt:=top 43
abbrev sAreCh:Stmt:=top 44
section
variable {P:Program}{w:World}{K:PySem.W.Frag}{mg:Str→Option Value}{base:Heap}
def spIsCh:Sp:=fun vs H Q _=>∃(x:Nat),vs=[nV x]∧Q (.bl (Su111.okP x)) H
theorem scIsCh:Aq ["tenths"] ["tenths"] (Ag sIsCh):=⟨rfl,rfl,rfl,by decide +kernel,rfl,by decide +kernel,by decide +kernel⟩
theorem okP_eq (x:Nat):Su111.okP x=(decide ((1:Int)≤((x:Nat):Int))&&decide (((x:Nat):Int)≤9)):=by
 rw[Bool.eq_iff_iff]
 simp[Su111.okP]
 omega
theorem ok_isCh {f:Addr}{fd:FuncData}(F:Fun K "is_chance" "is_chance" sIsCh f fd)(n9:Num mg "MOST_TENTHS" 9):Ah P w K mg base CX0 1 f fd ["tenths"] spIsCh:=by
 obtain⟨u9,m9,r9⟩:=n9
 refine F.ok scIsCh (fun vs H Q E h=>?_) (fun cdv A outer s H vs Q E hr h=>?_)
 ·
  obtain⟨x,rfl,_⟩:=h
  rfl
 ·
  obtain⟨x,rfl,k⟩:=h
  refine⟨_,Af (Al (pe_and (pe_cmpR op_le Ao (pv 0) (AA _)) (pe_one (pe_cmpR op_le (pv 0) (Av rfl m9 r9) (AA _))))),?_⟩
  rw[okP_eq] at k
  refine⟨_,rfl,_,_,rfl,rfl,_,rfl,?_⟩
  by_cases e:(1:Int)≤((x:Nat):Int)
  ·
   rw[decide_eq_true e] at k ⊢
   refine AY ?_
   rw[Bool.true_and] at k
   exact⟨_,rfl,_,_,rfl,rfl,k⟩
  ·
   rw[decide_eq_false e] at k ⊢
   refine A3 ?_
   exact k
def spAreCh (K:PySem.W.Frag):Sp:=fun vs H Q _=>∃(a:Addr) (l:List Nat),vs=[.ref a]∧SqL K H a (l.map nV)∧l.length≤1000∧∀H',Ae H H'→Q (.bl (Su112.okC l)) H'
theorem scAreCh:Aq ["chances","tenths"] ["chances"] (Ag sAreCh):=⟨rfl,rfl,rfl,by decide +kernel,rfl,by decide +kernel,by decide +kernel⟩
theorem ok_areCh {f fI:Addr}{fd fdI:FuncData}(F:Fun K "are_chances" "are_chances" sAreCh f fd)(FI:Fun K "is_chance" "is_chance" sIsCh fI fdI)(bI:An K fdI ["tenths"] [])(mI:mg "is_chance"=some (.ref fI))(mL:mg "len"=none)(mA:mg "all"=none)(n9:Num mg "MOST_TENTHS" 9):
  Ah P w K mg base CX0 2 f fd ["chances"] (spAreCh K):=by
 have GI:Ah P w K mg base CX0 1 fI fdI ["tenths"] spIsCh:=ok_isCh FI n9
 refine F.ok scAreCh (fun vs H Q E h=>?_) (fun cdv A outer s H vs Q E hr h=>?_)
 ·
  obtain⟨a,l,rfl,_⟩:=h
  rfl
 ·
  obtain⟨a,l,rfl,hl,h1000,k⟩:=h
  refine⟨_,Ad (AN (PW.pt (pw_or (AB op_lt (Az (r:=rLenA K) At rfl mL PySem.boot_len (Aa (pv 0) Ac)) Ao (AA _)) (pw_or1 (AB op_gt (Az (r:=rLenA K) At rfl mL PySem.boot_len (Aa (pv 0) Ac)) Ao (AA _))))) (Af (Al pe_bl)) Ax)<|
   Af (Al (Az (r:=rAll K) (cr_all rfl) rfl mA (by decide +kernel) (Aa (pe_lc (own:=[("tenths",1)]) (g:=gName 1) rfl scAreCh.nd (A1 (pv 0)) (A5 (by show blkC ["chances","tenths"] (Ag sAreCh) _ _=true;decide +kernel))
    (fun _ _ _ _ _=>Au (i:=1) scAreCh.nd rfl (Or.inl rfl) (.inr rfl)) (fun _ _ _ _ _=>pts_nil) (fun _ _ _ _ _=>Aw GI hr rfl mI FI.kp bI .nil Ap (Aa (pv 1) Ac))) Ac))),?_⟩
  refine⟨_,rfl,a,_,rfl,.inl hl,_,_,rfl,rfl,_,rfl,?_⟩
  rw[List.length_map]
  by_cases e1:((l.length:Nat):Int)<2
  ·
   rw[decide_eq_true e1]
   refine AY (AY ?_)
   have q:=k H (Ae.refl _)
   have z:Su112.okC l=false:=by unfold Su112.okC;rw[decide_eq_false (by omega)];rfl
   rw[z] at q;exact q
  ·
   rw[decide_eq_false e1]
   refine A3 ⟨_,rfl,a,_,rfl,.inl hl,_,_,rfl,rfl,_,rfl,?_⟩
   rw[List.length_map]
   by_cases e2:(4:Int)<((l.length:Nat):Int)
   ·
    rw[decide_eq_true e2]
    refine AY ?_
    have q:=k H (Ae.refl _)
    have z:Su112.okC l=false:=by unfold Su112.okC Su112.MACHINES;rw[decide_eq_false (p:=l.length≤4) (by omega)];simp
    rw[z] at q;exact q
   ·
    rw[decide_eq_false e2]
    refine A3 ?_
    refine⟨_,rfl,a,rfl,⟨_,hl⟩,fun D hD=>?_⟩
    refine lc_list (K:=K) (a:=a) (xs:=l.map nV) (fun i H'=>Ae H H'∧H' D=some (.lst ((l.take i).map fun x=>V.bl (Su111.okP x)))) ⟨Ae.upd hD,Ab⟩ (fun i H' _ q=>Ae.seq q.1 hl) ?_ ?_
    ·
     rintro i x H' hi ⟨sm,hDi⟩
     obtain⟨hlt,rfl⟩:=map_nV_at hi
     refine⟨rfl,?_⟩
     dsimp only[tYes]
     rw[if_pos rfl]
     refine⟨_,rfl,l.getD i 0,rfl,?_⟩
     refine⟨_,hDi,by rw[List.length_map,List.length_take];exact AC (by omega),fun b o e=>?_,?_⟩
     ·
      rw[Ai (Aj e hD)];exact sm _ _ e
     ·
      rw[Ab,AJ (x:=l.getD i 0) (by rw[List.getD_eq_getElem?_getD,List.getElem?_eq_getElem hlt];rfl),List.map_append];rfl
    ·
     rintro H' ⟨sm,hDi⟩
     rw[List.length_map,List.take_length] at hDi
     refine⟨D,l.map Su111.okP,rfl,SqL.of (by rw[hDi,List.map_map];rfl),?_⟩
     have z:(l.map Su111.okP).all id=Su112.okC l:=by
      unfold Su112.okC Su112.MACHINES
      rw[decide_eq_true (p:=2≤l.length) (by omega),decide_eq_true (p:=l.length≤4) (by omega),List.all_map];rfl
     rw[z]
     exact k H' sm
end
end Wk
namespace Rb
def stepI (lt:Su111.Fr→Su111.Fr→Bool)(fs:List Su111.Fr)(b i:Nat):Nat:=if lt (fs.getD b (0,1)) (fs.getD i (0,1))=true then i else b
def ixOf (lt:Su111.Fr→Su111.Fr→Bool)(fs:List Su111.Fr)(n:Nat):Nat:=(List.range n).foldl (stepI lt fs) 0
def pickG {α:Type}(lt:Su111.Fr→Su111.Fr→Bool)(g:α→Su111.Fr)(b r:α):α:=if lt (g b) (g r)=true then r else b
theorem ixOf_succ (lt:Su111.Fr→Su111.Fr→Bool)(fs:List Su111.Fr)(n:Nat):ixOf lt fs (n+1)=stepI lt fs (ixOf lt fs n) n:=by
 unfold ixOf;rw[List.range_succ,List.foldl_append];rfl
theorem ixOf_lt (lt:Su111.Fr→Su111.Fr→Bool)(fs:List Su111.Fr)(h:0<fs.length):∀n,n≤fs.length→ixOf lt fs n<fs.length
 | 0,_=>h
 |
  n+1,hn=>by
  rw[ixOf_succ];unfold stepI
  split
  ·
   omega
  ·
   exact ixOf_lt lt fs h n (by omega)
theorem getD_map' {α:Type}(g:α→Su111.Fr)(l:List α)(d:α)(j:Nat)(h:j<l.length):(l.map g).getD j (0,1)=g (l.getD j d):=by
 rw[List.getD_eq_getElem?_getD,List.getD_eq_getElem?_getD,List.getElem?_map,List.getElem?_eq_getElem h];rfl
theorem ix_pick {α:Type}(lt:Su111.Fr→Su111.Fr→Bool)(g:α→Su111.Fr)(l:List α)(d:α)(h:0<l.length):∀n,n≤l.length→
  l.getD (ixOf lt (l.map g) n) d=(l.take n).foldl (pickG lt g) (l.headD d)
 |
  0,_=>by
  cases l with
  | nil=>exact absurd h (by simp)
  | cons a l=>rfl
 |
  n+1,hn=>by
  have ih:=ix_pick lt g l d h n (by omega)
  have hj:=ixOf_lt lt (l.map g) (by rw[List.length_map];exact h) n (by rw[List.length_map];omega)
  rw[List.length_map] at hj
  have e:l.take (n+1)=l.take n++[l.getD n d]:=by
   rw[List.take_succ,List.getD_eq_getElem?_getD,List.getElem?_eq_getElem (show n<l.length by omega)];rfl
  rw[ixOf_succ,e,List.foldl_append,←ih]
  unfold stepI
  rw[getD_map' g l d _ hj,getD_map' g l d n (by omega)]
  show _=pickG lt g (l.getD (ixOf lt (l.map g) n) d) (l.getD n d)
  unfold pickG
  split<;>rfl
theorem fold_pick {α:Type}(lt:Su111.Fr→Su111.Fr→Bool)(g:α→Su111.Fr):∀(l:List α) (b:α),
  (l.foldl (fun (b:α×Su111.Fr) r=>let x:=g r;if lt b.2 x then (r,x) else b) (b,g b)).1=l.foldl (pickG lt g) b
 | [],b=>rfl
 |
  r::l,b=>by
  rw[List.foldl_cons,List.foldl_cons]
  by_cases e:lt (g b) (g r)=true
  ·
   have e1:pickG lt g b r=r:=by unfold pickG;rw[if_pos e]
   simp only[e,if_true,e1]
   exact fold_pick lt g l r
  ·
   have e1:pickG lt g b r=b:=by unfold pickG;rw[if_neg e]
   simp only[e,if_false,e1]
   exact fold_pick lt g l b
theorem pick_all {α:Type}(lt:Su111.Fr→Su111.Fr→Bool)(ir:∀f,lt f f=false)(g:α→Su111.Fr)(l:List α)(d:α)(h:0<l.length):
  l.getD (ixOf lt (l.map g) l.length) d=((l.drop 1).foldl (fun (b:α×Su111.Fr) r=>let x:=g r;if lt b.2 x then (r,x) else b) (l.headD d,g (l.headD d))).1:=by
 rw[fold_pick,ix_pick lt g l d h l.length (Nat.le_refl _),List.take_length]
 cases l with
 | nil=>exact absurd h (by simp)
 |
  cons a l=>
  show l.foldl (pickG lt g) (pickG lt g a a)=l.foldl (pickG lt g) a
  have:pickG lt g a a=a:=by unfold pickG;rw[ir];rfl
  rw[this]
theorem less_irr (f:Su111.Fr):Su111.less f f=false:=by unfold Su111.less;exact decide_eq_false (by omega)
theorem most_ix (c:List Nat)(l:List (List Nat))(h:0<l.length):l.getD (ixOf Su111.less (l.map (Su112.rate c)) l.length) []=Su112.most c l:=
 pick_all Su111.less less_irr (Su112.rate c) l [] h
theorem least_ix (c:List Nat)(l:List (List Nat))(h:0<l.length):l.getD (ixOf (fun a b=>Su111.less b a) (l.map (Su112.rate c)) l.length) []=Su112.least c l:=
 pick_all (fun a b=>Su111.less b a) less_irr (Su112.rate c) l [] h
theorem most_mem (c:List Nat)(l:List (List Nat))(h:l≠[]):Su112.most c l∈l:=by
 have h0:0<l.length:=List.length_pos_iff.mpr h
 rw[←most_ix c l h0]
 have:=ixOf_lt Su111.less (l.map (Su112.rate c)) (by rw[List.length_map];exact h0) l.length (by rw[List.length_map];exact Nat.le_refl _)
 rw[List.length_map] at this
 exact getD_mem _ _ _ this
theorem least_mem (c:List Nat)(l:List (List Nat))(h:l≠[]):Su112.least c l∈l:=by
 have h0:0<l.length:=List.length_pos_iff.mpr h
 rw[←least_ix c l h0]
 have:=ixOf_lt (fun a b=>Su111.less b a) (l.map (Su112.rate c)) (by rw[List.length_map];exact h0) l.length (by rw[List.length_map];exact Nat.le_refl _)
 rw[List.length_map] at this
 exact getD_mem _ _ _ this
def growO (m:Nat)(os:List (List Nat)):List (List Nat):=os.flatMap fun o=>((List.range m).filter fun x=>!o.contains x).map fun x=>o++[x]
def pyOrds (m:Nat):Nat→List (List Nat)
 | 0=>[[]]
 | k+1=>growO m (pyOrds m k)
theorem ords_eq {m:Nat}(h:m≤4):pyOrds m m=Su112.orders m (List.range m):=by
 have:∀m∈List.range 5,pyOrds m m=Su112.orders m (List.range m):=by decide +kernel
 exact this m (List.mem_range.mpr (by omega))
theorem ords_few {m k:Nat}(h:m≤4)(hk:k≤m):(pyOrds m k).length≤24∧0<(pyOrds m k).length∧∀o∈pyOrds m k,o.length=k∧∀y∈o,y<m:=by
 have:∀m∈List.range 5,∀k∈List.range (m+1),(pyOrds m k).length≤24∧0<(pyOrds m k).length∧∀o∈pyOrds m k,o.length=k∧∀y∈o,y<m:=by decide +kernel
 exact this m (List.mem_range.mpr (by omega)) k (List.mem_range.mpr (by omega))
theorem no_ways {g n:Nat}(hg:g≤3)(h:n<g):Su112.waysOf g n=[]:=by
 have:∀g∈List.range 4,∀n∈List.range g,Su112.waysOf g n=[]:=by decide +kernel
 exact this g (List.mem_range.mpr (by omega)) n (List.mem_range.mpr h)
def diffF (f g:Su111.Fr):Su111.Fr:=Su111.plus f (-g.1,g.2)
theorem diff_low (f g:Su111.Fr):Su111.low (f.1*((g.2:Nat):Int)-g.1*((f.2:Nat):Int)) (f.2*g.2)=diffF f g:=by
 unfold diffF Su111.plus
 show _=Su111.low (f.1*((g.2:Nat):Int)+-g.1*((f.2:Nat):Int)) (f.2*g.2)
 rw[Int.neg_mul,Int.sub_eq_add_neg]
theorem diff_canon {f g:Su111.Fr}(hf:0<f.2)(hg:0<g.2):Canon (diffF f g):=plus_canon hf hg
theorem less_diff {f g b:Su111.Fr}(hf:0<f.2)(hg:0<g.2)(hb:0<b.2):Su111.less (diffF f b) (diffF g b)=Su111.less f g:=by
 rw[less_val (diff_canon hf hb).1 (diff_canon hg hb).1,less_val hf hg]
 unfold diffF
 rw[plus_val (b:=(-b.1,b.2)) hf hb,plus_val (b:=(-b.1,b.2)) hg hb]
 apply decide_eq_decide.mpr
 generalize val (-b.1,b.2)=z
 constructor
 ·
  intro h;grind
 ·
  intro h;grind
theorem less_low {f:Su111.Fr}{x y:Nat}(hf:0<f.2)(hy:0<y):Su111.less f (Su111.low (Int.ofNat x) y)=Su111.less f (((x:Nat):Int),y):=by
 rw[less_val hf (low_canon _ _ hy).1,less_val hf hy,low_val _ _ hy]
 rfl
theorem fine_canon {c r:List Nat}(F:Fine c r):Canon (Su112.rate c r):=by
 have O:Tord r (Su111.states r):=⟨List.Perm.refl _,states_last r⟩
 have Or:=F.ord _ O.perm O.last
 have hpos:=Or.pos
 have C:=chain (Su112.line c r) F.wts _ Or
 obtain⟨st,sp,_⟩:=often C (by omega)
 exact (F.rate _ O.perm _ st sp).1
theorem low_den_le (x:Int){n:Nat}(h:0<n):(Su111.low x n).2≤n∧(Su111.low x n).1.natAbs≤x.natAbs:=by
 have hg:0<Nat.gcd x.natAbs n:=Nat.gcd_pos_of_pos_right _ h
 unfold Su111.low
 rw[if_neg (by omega)]
 refine⟨Nat.div_le_self _ _,?_⟩
 show (x/((Nat.gcd x.natAbs n:Nat):Int)).natAbs≤x.natAbs
 have hd:((Nat.gcd x.natAbs n:Nat):Int) ∣ x:=Int.ofNat_dvd_left.mpr (Nat.gcd_dvd_left _ _)
 rw[Int.natAbs_ediv_of_dvd hd,Int.natAbs_natCast]
 exact Nat.div_le_self _ _
theorem neck_fold {α:Type}(g:α→Su111.Fr):∀(l:List α) (b:α),l.foldl (fun (b:Option (α×Su111.Fr)) i=>let x:=g i
  match b with
  | none=>some (i,x)
  | some y=>if Su111.less y.2 x then some (i,x) else some y) (some (b,g b))=some (l.foldl (pickG Su111.less g) b,g (l.foldl (pickG Su111.less g) b))
 | [],b=>rfl
 |
  r::l,b=>by
  rw[List.foldl_cons,List.foldl_cons]
  by_cases e:Su111.less (g b) (g r)=true
  ·
   have e1:pickG Su111.less g b r=r:=by unfold pickG;rw[if_pos e]
   simp only[e,if_true,e1]
   exact neck_fold g l r
  ·
   have e1:pickG Su111.less g b r=b:=by unfold pickG;rw[if_neg e]
   simp only[e,if_false,e1]
   exact neck_fold g l b
theorem neck_ix {α:Type}(g:α→Su111.Fr)(l:List α)(d:α)(h:0<l.length):l.foldl (fun (b:Option (α×Su111.Fr)) i=>let x:=g i
  match b with
  | none=>some (i,x)
  | some y=>if Su111.less y.2 x then some (i,x) else some y) none=some (l.getD (ixOf Su111.less (l.map g) l.length) d,g (l.getD (ixOf Su111.less (l.map g) l.length) d)):=by
 rw[ix_pick Su111.less g l d h l.length (Nat.le_refl _),List.take_length]
 cases l with
 | nil=>exact absurd h (by simp)
 |
  cons a l=>
  have e:pickG Su111.less g a a=a:=by unfold pickG;rw[less_irr];rfl
  show l.foldl _ (some (a,g a))=some (l.foldl (pickG Su111.less g) (pickG Su111.less g a a),g (l.foldl (pickG Su111.less g) (pickG Su111.less g a a)))
  rw[e]
  exact neck_fold g l a
theorem ixOf_congr (fs gs:List Su111.Fr)(hl:fs.length=gs.length)(h:∀i j,i<fs.length→j<fs.length→Su111.less (fs.getD i (0,1)) (fs.getD j (0,1))=Su111.less (gs.getD i (0,1)) (gs.getD j (0,1))):
  ∀n,n≤fs.length→ixOf Su111.less fs n=ixOf Su111.less gs n
 | 0,_=>rfl
 |
  n+1,hn=>by
  rw[ixOf_succ,ixOf_succ,←ixOf_congr fs gs hl h n (by omega)]
  unfold stepI
  rw[h _ _ (ixOf_lt Su111.less fs (by omega) n (by omega)) (by omega)]
end Rb
namespace Wk
open PySem PySem.Spec PyProof.Rows L2 Rb
section
variable {P:Program}{w:World}{K:PySem.W.Frag}{mg:Str→Option Value}{base:Heap}
def spDiff (K:PySem.W.Frag):Sp:=fun vs H Q _=>∃(a b:Addr) (f g:Su111.Fr),vs=[.ref a,.ref b]∧SqT K H a [.int f.1,.int (f.2:Nat)]∧SqT K H b [.int g.1,.int (g.2:Nat)]∧Small f∧Small g∧0<f.2∧0<g.2∧
 ∀p,H p=none→Q (.ref p) (upd H p (.tup [.int (diffF f g).1,.int ((diffF f g).2:Nat)]))
theorem scDiff:Aq ["one","other"] ["one","other"] (Ag sDiff):=⟨rfl,rfl,rfl,by decide +kernel,rfl,by decide +kernel,by decide +kernel⟩
theorem big2 {a b:Nat}(ha:a<BIG)(hb:b<BIG):a*b<2^1024:=by
 have e:BIG*BIG=2^1024:=by unfold BIG;rw[←Nat.pow_add]
 rw[←e]
 exact Nat.mul_lt_mul'' ha hb
theorem ok_diff {f fL:Addr}{fd fdL:FuncData}(F:Fun K "difference" "difference" sDiff f fd)(GL:Ah P w K mg base CX0 2 fL fdL ["above","below"] spLowest)(bL:An K fdL ["above","below"] [])(kL:PySem.W.keepIn K (.ref fL)=true)
  (mL:mg "lowest"=some (.ref fL)):Ah P w K mg base CX0 3 f fd ["one","other"] (spDiff K):=by
 refine F.ok scDiff (fun vs H Q E h=>?_) (fun cdv A outer s H vs Q E hr h=>?_)
 ·
  obtain⟨a,b,f,g,rfl,_⟩:=h
  rfl
 ·
  obtain⟨a,b,f,g,rfl,ha,hb,sf,sg,pf,pg,k⟩:=h
  have hbig:BIG<2^2000:=Nat.pow_lt_pow_right (by decide) (by decide)
  have h24:(2:Nat)^1024<2^1200:=Nat.pow_lt_pow_right (by decide) (by decide)
  have m4:=big2 sf.2 sg.2
  have s1:=sf.1
  have s2:=sf.2
  have s3:=sg.1
  have s4:=sg.2
  refine⟨_,Af (Al (Aw GL hr rfl mL kL bL .nil Ap (Aa (AH op_sub (AH op_mulB (AK ix_tup (pv 0) Ao (fun _ _=>rfl)) (AK ix_tup (pv 1) Ao (fun _ _=>rfl)))
   (AH op_mulB (AK ix_tup (pv 1) Ao (fun _ _=>rfl)) (AK ix_tup (pv 0) Ao (fun _ _=>rfl)))) (Aa (AH op_mulB (AK ix_tup (pv 0) Ao (fun _ _=>rfl)) (AK ix_tup (pv 1) Ao (fun _ _=>rfl))) Ac)))),?_⟩
  refine⟨_,rfl,_,_,_,_,rfl,rfl,ha,rfl,_,rfl,_,_,_,_,rfl,rfl,hb,rfl,_,_,rfl,rfl,⟨by omega,by rw[Int.natAbs_natCast];omega⟩,_,rfl,_,_,_,_,rfl,rfl,hb,rfl,_,rfl,_,_,_,_,rfl,rfl,ha,rfl,_,_,rfl,rfl,
   ⟨by omega,by rw[Int.natAbs_natCast];omega⟩,_,_,rfl,rfl,_,rfl,_,_,_,_,rfl,rfl,ha,rfl,_,rfl,_,_,_,_,rfl,rfl,hb,rfl,_,_,rfl,rfl,⟨by rw[Int.natAbs_natCast];omega,by rw[Int.natAbs_natCast];omega⟩,
   f.1*((g.2:Nat):Int)-g.1*((f.2:Nat):Int),f.2*g.2,?_,Nat.mul_pos pf pg,by omega,?_⟩
  ·
   rw[Int.natCast_mul];rfl
  ·
   rw[diff_low];exact k
def Wide (f:Su111.Fr):Prop:=f.1.natAbs<2^1200∧f.2<2^1200
theorem Small.wide {f:Su111.Fr}(h:Small f):Wide f:=⟨Nat.lt_trans h.1 big1000,Nat.lt_trans h.2 big1000⟩
theorem diff_wide {f g:Su111.Fr}(sf:Small f)(sg:Small g)(pf:0<f.2)(pg:0<g.2):Wide (diffF f g):=by
 have h24:(2:Nat)^1024+2^1024<2^1200:=by decide +kernel
 have m1:=big2 sf.1 sg.2
 have m2:=big2 sg.1 sf.2
 have m4:=big2 sf.2 sg.2
 rw[←diff_low]
 obtain⟨h1,h2⟩:=low_den_le (f.1*((g.2:Nat):Int)-g.1*((f.2:Nat):Int)) (Nat.mul_pos pf pg)
 refine⟨Nat.lt_of_le_of_lt h2 ?_,by omega⟩
 have e1:(f.1*((g.2:Nat):Int)).natAbs=f.1.natAbs*g.2:=by rw[Int.natAbs_mul,Int.natAbs_natCast]
 have e2:(g.1*((f.2:Nat):Int)).natAbs=g.1.natAbs*f.2:=by rw[Int.natAbs_mul,Int.natAbs_natCast]
 generalize f.1*((g.2:Nat):Int)=x at e1
 generalize g.1*((f.2:Nat):Int)=y at e2
 omega
def spFirst (lt:Su111.Fr→Su111.Fr→Bool):Sp:=fun vs H Q _=>∃(l:Addr) (fs:List Su111.Fr),vs=[.ref l]∧LstAt FrAt H l fs∧0<fs.length∧(∀f∈fs,Wide f)∧∀H',Ae H H'→Q (nV (ixOf lt fs fs.length)) H'
theorem scFMost:Aq ["fractions","most","place","fraction"] ["fractions"] (Ag sFMost):=⟨rfl,rfl,rfl,by decide +kernel,rfl,by decide +kernel,by decide +kernel⟩
theorem ok_FMost {f fM:Addr}{fd fdM:FuncData}(F:Fun K "first_most" "first_most" sFMost f fd)(GM:Ah P w K mg base CX0 1 fM fdM ["one","other"] (spMore K))(bM:An K fdM ["one","other"] [])(kM:PySem.W.keepIn K (.ref fM)=true)(mM:mg "is_more"=some (.ref fM))(mE:mg "enumerate"=none):
  Ah P w K mg base CX0 2 f fd ["fractions"] (spFirst Su111.less):=by
 refine F.ok scFMost (fun vs H Q E h=>?_) (fun cdv A outer s H vs Q E hr h=>?_)
 ·
  obtain⟨l,fs,rfl,_⟩:=h
  rfl
 ·
  obtain⟨l,fs,rfl,⟨ts,hts,hpt⟩,hpos,hbig,k⟩:=h
  have hlen:ts.length=fs.length:=hpt.length
  refine⟨_,Ad (As (i:=1) scFMost.nd rfl (Or.inl rfl) Ao)<|Ad (ps_for PassesOwn.never rfl (pi_enum rfl mE (Aa (pv 0) Ac)) (pg_tup rfl (AS (Au (i:=2) scFMost.nd rfl (Or.inl rfl)) (AS (Au (i:=3) scFMost.nd rfl (Or.inl rfl)) pgs_nil)))<|
    Af (AN (pt_val (Aw GM hr rfl mM kM bM .nil Ap (Aa (pv 3) (Aa (AK AI (pv 0) (pv 1) (fun _ _=>rfl)) Ac)))) (Af (As (i:=1) scFMost.nd rfl (Or.inl rfl) (pv 2))) Ax))<|Af (Al (pv 1)),?_⟩
  refine⟨_,rfl,l,_,rfl,SqL.of hts,for_enum (K:=K) (a:=l) (xs:=ts.map V.ref) (fun i σ H'=>∃(v2 v3:Option V),σ=[some (.ref l),some (nV (ixOf Su111.less fs i)),v2,v3]∧Ae H H') ⟨none,none,rfl,Ae.refl _⟩ (fun i σ H' _ q=>by
   obtain⟨_,_,_,sm⟩:=q
   exact SqL.of (sm _ _ hts)) ?_ ?_⟩
  ·
   rintro i x σ H2 hi ⟨v2,v3,rfl,sm⟩ t ht
   obtain⟨ti,hti,rfl⟩:=AL hi
   obtain⟨fi,hfi,hfr⟩:=AF hpt hti
   obtain⟨hil,_⟩:=List.getElem?_eq_some_iff.mp hfi
   have st:Ae H2 (upd H2 t (.tup [.int ((i:Nat):Int),.ref ti])):=Ae.upd ht
   have sA:=Ae.trans sm st
   have hj:=ixOf_lt Su111.less fs hpos i (by omega)
   generalize hjj:ixOf Su111.less fs i=j at hj
   obtain⟨fj,hfj,hfrj⟩:=AF hpt (i:=j) (a:=ts.getD j 0) (by rw[List.getD_eq_getElem?_getD,List.getElem?_eq_getElem (by omega)];rfl)
   have bi:=hbig _ (List.mem_of_getElem? hfi)
   have bj:=hbig _ (List.mem_of_getElem? hfj)
   have ei:fs.getD i (0,1)=fi:=by rw[List.getD_eq_getElem?_getD,hfi];rfl
   have ej:fs.getD j (0,1)=fj:=by rw[List.getD_eq_getElem?_getD,hfj];rfl
   refine⟨t,_,rfl,SqT.of Ab,rfl,_,_,rfl,_,_,rfl,rfl,?_⟩
   refine⟨_,rfl,_,rfl,_,rfl,l,_,_,_,rfl,rfl,SqL.of (sA _ _ hts),bs_ix (by omega),ti,ts.getD j 0,fi,fj,rfl,SqT.of (sA _ _ hfr),SqT.of (sA _ _ hfrj),bi.1,bi.2,bj.1,bj.2,_,rfl,?_⟩
   have es:ixOf Su111.less fs (i+1)=if Su111.less fj fi=true then i else j:=by
    rw[ixOf_succ,hjj];unfold Rb.stepI;rw[ei,ej]
   cases hz:Su111.less fj fi with
   |
    true=>
    refine AY ⟨_,rfl,some (.int ((i:Nat):Int)),some (.ref ti),?_,sA⟩
    rw[es,if_pos hz];rfl
   |
    false=>
    refine A3 ⟨some (.int ((i:Nat):Int)),some (.ref ti),?_,sA⟩
    rw[es,if_neg (by rw[hz];decide)];rfl
  ·
   rintro σ H2 ⟨v2,v3,rfl,sm⟩
   rw[List.length_map,hlen]
   exact⟨_,rfl,k H2 sm⟩
theorem scFFew:Aq ["fractions","fewest","place","fraction"] ["fractions"] (Ag sFFew):=⟨rfl,rfl,rfl,by decide +kernel,rfl,by decide +kernel,by decide +kernel⟩
theorem ok_FFew {f fM:Addr}{fd fdM:FuncData}(F:Fun K "first_fewest" "first_fewest" sFFew f fd)(GM:Ah P w K mg base CX0 1 fM fdM ["one","other"] (spMore K))(bM:An K fdM ["one","other"] [])(kM:PySem.W.keepIn K (.ref fM)=true)(mM:mg "is_more"=some (.ref fM))(mE:mg "enumerate"=none):
  Ah P w K mg base CX0 2 f fd ["fractions"] (spFirst (fun a b=>Su111.less b a)):=by
 refine F.ok scFFew (fun vs H Q E h=>?_) (fun cdv A outer s H vs Q E hr h=>?_)
 ·
  obtain⟨l,fs,rfl,_⟩:=h
  rfl
 ·
  obtain⟨l,fs,rfl,⟨ts,hts,hpt⟩,hpos,hbig,k⟩:=h
  have hlen:ts.length=fs.length:=hpt.length
  refine⟨_,Ad (As (i:=1) scFFew.nd rfl (Or.inl rfl) Ao)<|Ad (ps_for PassesOwn.never rfl (pi_enum rfl mE (Aa (pv 0) Ac)) (pg_tup rfl (AS (Au (i:=2) scFFew.nd rfl (Or.inl rfl)) (AS (Au (i:=3) scFFew.nd rfl (Or.inl rfl)) pgs_nil)))<|
    Af (AN (pt_val (Aw GM hr rfl mM kM bM .nil Ap (Aa (AK AI (pv 0) (pv 1) (fun _ _=>rfl)) (Aa (pv 3) Ac)))) (Af (As (i:=1) scFFew.nd rfl (Or.inl rfl) (pv 2))) Ax))<|Af (Al (pv 1)),?_⟩
  refine⟨_,rfl,l,_,rfl,SqL.of hts,for_enum (K:=K) (a:=l) (xs:=ts.map V.ref) (fun i σ H'=>∃(v2 v3:Option V),σ=[some (.ref l),some (nV (ixOf (fun a b=>Su111.less b a) fs i)),v2,v3]∧Ae H H') ⟨none,none,rfl,Ae.refl _⟩ (fun i σ H' _ q=>by
   obtain⟨_,_,_,sm⟩:=q
   exact SqL.of (sm _ _ hts)) ?_ ?_⟩
  ·
   rintro i x σ H2 hi ⟨v2,v3,rfl,sm⟩ t ht
   obtain⟨ti,hti,rfl⟩:=AL hi
   obtain⟨fi,hfi,hfr⟩:=AF hpt hti
   obtain⟨hil,_⟩:=List.getElem?_eq_some_iff.mp hfi
   have st:Ae H2 (upd H2 t (.tup [.int ((i:Nat):Int),.ref ti])):=Ae.upd ht
   have sA:=Ae.trans sm st
   have hj:=ixOf_lt (fun a b=>Su111.less b a) fs hpos i (by omega)
   generalize hjj:ixOf (fun a b=>Su111.less b a) fs i=j at hj
   obtain⟨fj,hfj,hfrj⟩:=AF hpt (i:=j) (a:=ts.getD j 0) (by rw[List.getD_eq_getElem?_getD,List.getElem?_eq_getElem (by omega)];rfl)
   have bi:=hbig _ (List.mem_of_getElem? hfi)
   have bj:=hbig _ (List.mem_of_getElem? hfj)
   have ei:fs.getD i (0,1)=fi:=by rw[List.getD_eq_getElem?_getD,hfi];rfl
   have ej:fs.getD j (0,1)=fj:=by rw[List.getD_eq_getElem?_getD,hfj];rfl
   refine⟨t,_,rfl,SqT.of Ab,rfl,_,_,rfl,_,_,rfl,rfl,?_⟩
   refine⟨_,rfl,_,rfl,l,_,_,_,rfl,rfl,SqL.of (sA _ _ hts),bs_ix (by omega),_,rfl,ts.getD j 0,ti,fj,fi,rfl,SqT.of (sA _ _ hfrj),SqT.of (sA _ _ hfr),bj.1,bj.2,bi.1,bi.2,_,rfl,?_⟩
   have es:ixOf (fun a b=>Su111.less b a) fs (i+1)=if Su111.less fi fj=true then i else j:=by
    rw[ixOf_succ,hjj];unfold Rb.stepI;rw[ei,ej]
   cases hz:Su111.less fi fj with
   |
    true=>
    refine AY ⟨_,rfl,some (.int ((i:Nat):Int)),some (.ref ti),?_,sA⟩
    rw[es,if_pos hz];rfl
   |
    false=>
    refine A3 ⟨some (.int ((i:Nat):Int)),some (.ref ti),?_,sA⟩
    rw[es,if_neg (by rw[hz];decide)];rfl
  ·
   rintro σ H2 ⟨v2,v3,rfl,sm⟩
   rw[List.length_map,hlen]
   exact⟨_,rfl,k H2 sm⟩
end
end Wk
namespace Rb
def growP (o:List Nat)(k:Nat):List (List Nat):=((List.range k).filter fun x=>!o.contains x).map fun x=>o++[x]
theorem growP_succ (o:List Nat)(k:Nat):growP o (k+1)=growP o k++(if o.contains k=true then [] else [o++[k]]):=by
 unfold growP
 rw[List.range_succ,List.filter_append,List.map_append]
 congr 1
 cases h:o.contains k with
 | true=>rw[List.filter_cons,h];rfl
 | false=>rw[List.filter_cons,h];rfl
theorem growO_take {m:Nat}{l:List (List Nat)}{j:Nat}{o:List Nat}(h:l[j]?=some o):growO m (l.take (j+1))=growO m (l.take j)++growP o m:=by
 rw[List.take_add_one,h]
 unfold growO growP
 rw[List.flatMap_append];simp
theorem growP_len (o:List Nat)(k:Nat):(growP o k).length≤k:=by
 unfold growP
 rw[List.length_map]
 exact Nat.le_trans (List.length_filter_le _ _) (by simp)
theorem growO_len (m:Nat)(l:List (List Nat)):(growO m l).length≤m*l.length:=by
 induction l with
 | nil=>simp[growO]
 |
  cons w l ih=>
  have e:growO m (w::l)=growP w m++growO m l:=by unfold growO growP;rw[List.flatMap_cons]
  rw[e,List.length_append,List.length_cons,Nat.mul_succ]
  have:=growP_len w m
  omega
end Rb
namespace Wk
open PySem PySem.Spec PyProof.Rows L2 Rb
theorem inV_nat (x:Nat)(o:List Nat):inV (nV x) (o.map nV)=o.contains x:=by
 unfold inV
 induction o with
 | nil=>rfl
 |
  cons y o ih=>
  rw[List.map_cons,List.any_cons,ih,List.contains_cons]
  congr 1
  unfold nV
  simp[eqV]
  rw[Bool.eq_iff_iff]
  simp
  omega
theorem flat_nVs (o:List Nat):(o.map nV).all flatV=true:=by
 rw[List.all_map,List.all_eq_true];intro x _;rfl
section
variable {P:Program}{w:World}{K:PySem.W.Frag}{mg:Str→Option Value}{base:Heap}
def spOneMach:Sp:=fun vs H Q _=>∃(l:Addr) (os:List (List Nat)) (m:Nat),vs=[.ref l,nV m]∧LstAt AR H l os∧os.length≤24∧m≤4∧(∀x∈os,x.length≤4)∧∀(H':Hp) (g:Addr),Ae H H'→LstAt AR H' g (growO m os)→Q (.ref g) H'
theorem scOneMach:Aq ["orders","machines","grown","order","machine"] ["orders","machines"] (Ag sOneMach):=⟨rfl,rfl,rfl,by decide +kernel,rfl,by decide +kernel,by decide +kernel⟩
theorem ok_oneMach {f:Addr}{fd:FuncData}(F:Fun K "one_machine_more" "one_machine_more" sOneMach f fd)(mR:mg "range"=none):Ah P w K mg base CX0 1 f fd ["orders","machines"] spOneMach:=by
 refine F.ok scOneMach (fun vs H Q E h=>?_) (fun cdv A outer s H vs Q E hr h=>?_)
 ·
  obtain⟨l,os,m,rfl,_⟩:=h
  rfl
 ·
  obtain⟨l,os,m,rfl,⟨ts,hts,hpt⟩,h24,h4,hos,k⟩:=h
  refine⟨_,Ad (As (i:=2) scOneMach.nd rfl (Or.inl rfl) (AD Ac))<|
   Ad (ps_for PassesOwn.never rfl (A1 (pv 0)) (Au (i:=3) scOneMach.nd rfl (Or.inl rfl))<|
    Af (ps_for PassesOwn.never rfl (pi_range1 rfl mR (Aa (pv 1) Ac)) (Au (i:=4) scOneMach.nd rfl (Or.inl rfl))<|
     Af (AN (AB op_notIn_seq (pv 4) (pv 3) rfl)
      (Af (ps_expr (pe_bm PySem.F.plainAttrs_list PySem.F.slot_list_append PySem.F.type_list_append mt_append (pv 2) (Aa (AH op_catU (pv 3) (A6 (Aa (pv 4) Ac))) Ac)))) Ax)))<|
   Af (Al (pv 2)),?_⟩
  refine⟨Nat.zero_le _,fun g hg=>?_⟩
  have M0:GMk AR H (upd H g (.lst [])) g (growO m (os.take 0)):=GMk.start (Ae.refl _) hg
  refine⟨_,rfl,l,rfl,⟨_,SqL.of (M0.same _ _ hts)⟩,for_list (K:=K) (a:=l) (xs:=ts.map V.ref) (fun j σ H'=>∃(v3 v4:Option V),σ=[some (.ref l),some (nV m),some (.ref g),v3,v4]∧GMk AR H H' g (growO m (os.take j)))
   ⟨none,none,rfl,M0⟩ (fun j σ H' _ q=>by obtain⟨_,_,_,M⟩:=q;exact SqL.of (M.same _ _ hts)) ?_ ?_⟩
  ·
   rintro j y σ H1 hj ⟨v3,v4,rfl,M⟩
   obtain⟨t,ht,rfl⟩:=AL hj
   obtain⟨o,ho,hst⟩:=AF hpt ht
   have hom:=hos _ (List.mem_of_getElem? ho)
   have hgl:=growO_len m (os.take j)
   rw[List.length_take] at hgl
   have hgl2:m*min j os.length≤4*24:=Nat.mul_le_mul h4 (by omega)
   refine⟨_,rfl,_,rfl,(by show -(2^62:Int)≤((m:Nat):Int);omega),(by show ((m:Nat):Int)<2^62;omega),?_⟩
   rw[Int.toNat_natCast]
   refine for_range (n:=m) (fun h σ H'=>∃(v4:Option V),σ=[some (.ref l),some (nV m),some (.ref g),some (.ref t),v4]∧GMk AR H H' g (growO m (os.take j)++growP o h)) ⟨_,rfl,?_⟩ ?_ ?_
   ·
    have e0:growP o 0=[]:=rfl
    rw[e0,List.append_nil];exact M
   ·
    rintro h σ H2 hh ⟨v4,rfl,M2⟩
    have hst2:=AR.mono _ _ _ _ (same_tup M2.same) hst
    have e1:(0:Int)+((h:Nat):Int)=((h:Nat):Int):=by omega
    rw[e1]
    have hb:(growO m (os.take j)++growP o h).length<10000:=by
     rw[List.length_append]
     have:=growP_len o h
     omega
    refine⟨_,rfl,_,rfl,t,o.map nV,rfl,.inr (SqT.of hst2),rfl,flat_nVs o,_,rfl,?_⟩
    have ed:(if true=true then !inV (V.int ((h:Nat):Int)) (o.map nV) else inV (V.int ((h:Nat):Int)) (o.map nV))=!o.contains h:=by
     rw[if_pos rfl]
     exact congrArg _ (inV_nat h o)
    rw[ed,growP_succ]
    cases hf:o.contains h with
    |
     false=>
     refine AY ?_
     rw[if_neg Bool.false_ne_true,←List.append_assoc]
     obtain⟨gs0,c1,_⟩:=M2.at_
     refine⟨_,rfl,.inl ⟨rfl,_,SqL.of c1⟩,_,rfl,_,rfl,(by show 1≤sizeLine;decide),fun t1 ht1=>catU_any (SqT.of (Ae.upd ht1 _ _ hst2)) Ab (by simp) ?_ (fun q H4 s4' hq=>?_)⟩
     ·
      rw[List.length_map];show o.length+1≤sizeLine
      exact Nat.le_of_lt (AC (by omega))
     have s4:=Ae.trans (Ae.upd (o:=.tup [nV h]) ht1) s4'
     have hq':AR H4 q (o++[h]):=by
      show _=_
      rw[hq,List.map_append];rfl
     obtain⟨gs,a1,a2,a3,_⟩:=M2.grow AR.mono s4 hq' hb
     exact⟨g,gs,_,rfl,rfl,a1,a2,_,rfl,a3⟩
    |
     true=>
     refine A3 ?_
     rw[if_pos rfl,List.append_nil]
     exact⟨_,rfl,M2⟩
   ·
    rintro σ H2 ⟨v4,rfl,M2⟩
    refine⟨_,_,rfl,?_⟩
    rw[growO_take ho];exact M2
  ·
   rintro σ H2 ⟨v3,v4,rfl,M⟩
   rw[List.length_map,hpt.length,List.take_length] at M
   exact⟨_,rfl,k _ g M.same M.at_⟩
def spAllO:Sp:=fun vs H Q _=>∃(m:Nat),vs=[nV m]∧m≤4∧∀(H':Hp) (l:Addr),Ae H H'→LstAt AR H' l (Su112.orders m (List.range m))→Q (.ref l) H'
theorem scAllO:Aq ["machines","orders","place"] ["machines"] (Ag sAllO):=⟨rfl,rfl,rfl,by decide +kernel,rfl,by decide +kernel,by decide +kernel⟩
theorem ok_allO {f fM:Addr}{fd fdM:FuncData}(F:Fun K "all_orders" "all_orders" sAllO f fd)(GM:Ah P w K mg base CX0 1 fM fdM ["orders","machines"] spOneMach)(bM:An K fdM ["orders","machines"] [])(kM:PySem.W.keepIn K (.ref fM)=true)(mM:mg "one_machine_more"=some (.ref fM))
  (mR:mg "range"=none):Ah P w K mg base CX0 2 f fd ["machines"] spAllO:=by
 refine F.ok scAllO (fun vs H Q E h=>?_) (fun cdv A outer s H vs Q E hr h=>?_)
 ·
  obtain⟨m,rfl,_⟩:=h
  rfl
 ·
  obtain⟨m,rfl,h4,k⟩:=h
  refine⟨_,Ad (As (i:=1) scAllO.nd rfl (Or.inl rfl) (AD (Aa (A6 Ac) Ac)))<|
   Ad (ps_for PassesOwn.never rfl (pi_range1 rfl mR (Aa (pv 0) Ac)) (Au (i:=2) scAllO.nd rfl (Or.inl rfl))<|
    Af (As (i:=1) scAllO.nd rfl (Or.inl rfl) (Aw GM hr rfl mM kM bM .nil Ap (Aa (pv 1) (Aa (pv 0) Ac)))))<|
   Af (Al (pv 1)),?_⟩
  refine⟨by decide,fun t0 ht0=>⟨(by show 1≤sizeLine;decide),fun l0 hl0=>?_⟩⟩
  have s1:Ae H (upd (upd H t0 (.tup [])) l0 (.lst [.ref t0])):=Ae.trans (Ae.upd ht0) (Ae.upd hl0)
  have B0:LstAt AR (upd (upd H t0 (.tup [])) l0 (.lst [.ref t0])) l0 (pyOrds m 0):=⟨[t0],Ab,.cons (Ae.upd hl0 _ _ Ab) .nil⟩
  refine⟨_,rfl,_,rfl,(by show -(2^62:Int)≤((m:Nat):Int);omega),(by show ((m:Nat):Int)<2^62;omega),?_⟩
  rw[Int.toNat_natCast]
  refine for_range (n:=m) (fun i σ H'=>∃(l:Addr) (v2:Option V),σ=[some (nV m),some (.ref l),v2]∧Ae H H'∧LstAt AR H' l (pyOrds m i)) ⟨l0,none,rfl,s1,B0⟩ ?_ ?_
  ·
   rintro i σ H1 hi ⟨l,v2,rfl,sm,B⟩
   obtain⟨f1,_,f2⟩:=ords_few (m:=m) (k:=i) h4 (by omega)
   refine⟨_,rfl,_,rfl,l,pyOrds m i,m,rfl,B,f1,h4,fun x hx=>by have:=(f2 x hx).1;omega,fun H2 l2 s2 B2=>⟨l2,_,rfl,Ae.trans sm s2,B2⟩⟩
  ·
   rintro σ H1 ⟨l,v2,rfl,sm,B⟩
   rw[ords_eq h4] at B
   exact⟨_,rfl,k H1 l sm B⟩
def spInO (K:PySem.W.Frag):Sp:=fun vs H Q _=>∃(ca oa:Addr) (c o:List Nat),vs=[.ref ca,.ref oa]∧H ca=some (.lst (c.map nV))∧AR H oa o∧(∀y∈o,y<c.length)∧o.length≤4∧
 ∀(H':Hp) (D:Addr),Ae H H'→H D=none→H' D=some (.lst ((o.map fun i=>c.getD i 0).map nV))→Q (.ref D) H'
theorem scInO:Aq ["chances","order","machine"] ["chances","order"] (Ag sInO):=⟨rfl,rfl,rfl,by decide +kernel,rfl,by decide +kernel,by decide +kernel⟩
theorem ok_inO {f:Addr}{fd:FuncData}(F:Fun K "in_order" "in_order" sInO f fd):Ah P w K mg base CX0 1 f fd ["chances","order"] (spInO K):=by
 refine F.ok scInO (fun vs H Q E h=>?_) (fun cdv A outer s H vs Q E hr h=>?_)
 ·
  obtain⟨ca,oa,c,o,rfl,_⟩:=h
  rfl
 ·
  obtain⟨ca,oa,c,o,rfl,hc,ho,hlt,h4,k⟩:=h
  refine⟨_,Af (Al (pe_lc (own:=[("machine",2)]) (g:=gName 2) rfl scInO.nd (pi_tup (pv 1)) (A5 (by show blkC ["chances","order","machine"] (Ag sInO) _ _=true;decide +kernel))
    (fun _ _ _ _ _=>Au (i:=2) scInO.nd rfl (Or.inl rfl) (.inr rfl)) (fun _ _ _ _ _=>pts_nil) (fun _ _ _ _ _=>AK (r:=rIxL K) AI (pv 0) (pv 2) (fun _ _=>rfl)))),?_⟩
  refine⟨_,rfl,oa,rfl,⟨_,SqT.of ho⟩,fun D hD=>?_⟩
  refine lc_tup (K:=K) (a:=oa) (xs:=o.map nV) (fun i H'=>Ae H H'∧H' D=some (.lst (((o.take i).map fun i=>c.getD i 0).map nV))) ⟨Ae.upd hD,Ab⟩ (fun i H' _ q=>SqT.of (q.1 _ _ ho)) ?_ ?_
  ·
   rintro i x H' hi ⟨sm,hDi⟩
   obtain⟨hli,rfl⟩:=map_nV_at hi
   have hl:=hlt _ (getD_memN hli)
   refine⟨rfl,?_⟩
   dsimp only[tYes]
   rw[if_pos rfl]
   refine⟨_,rfl,_,rfl,ca,_,_,_,rfl,rfl,SqL.of (sm _ _ hc),at_nV hl,?_⟩
   refine⟨_,hDi,by rw[List.length_map,List.length_map,List.length_take];exact AC (by omega),fun b ob e=>?_,?_⟩
   ·
    rw[Ai (Aj e hD)];exact sm _ _ e
   ·
    rw[Ab,AJ (x:=o.getD i 0) (by rw[List.getD_eq_getElem?_getD,List.getElem?_eq_getElem hli];rfl),List.map_append,List.map_append];rfl
  ·
   rintro H' ⟨sm,hDi⟩
   rw[List.length_map,List.take_length] at hDi
   exact k H' D sm hD hDi
end
end Wk
namespace Rb
theorem fine_of {c r:List Nat}{n:Nat}(hc:Su112.okC c=true)(hn:n≤8)(h:r∈Su112.waysOf (c.length-1) n):Fine c r:=by
 have hl:2≤c.length∧c.length≤4:=by
  unfold Su112.okC Su112.MACHINES at hc
  rw[Bool.and_eq_true,Bool.and_eq_true] at hc
  exact⟨of_decide_eq_true hc.1,of_decide_eq_true hc.2.1⟩
 have hf:Su112.fits r=true:=by
  unfold Su112.waysOf at h
  exact (List.mem_filter.mp h).2
 rw[←ways_eq (by omega) hn] at h
 obtain⟨f1,f2⟩:=ways_few (g:=c.length-1) (by omega)
 obtain⟨e1,e2⟩:=f2 r (List.mem_filter.mp h).1
 refine⟨by omega,by omega,?_,?_,hf⟩
 ·
  unfold Su112.okC at hc
  rw[Bool.and_eq_true,Bool.and_eq_true] at hc
  intro x hx
  have:=List.all_eq_true.mp hc.2.2 x hx
  simp[Su111.okP] at this
  omega
 ·
  rw[List.all_eq_true]
  intro x hx
  have:=e2 x hx
  simp;omega
theorem ways_100 {c:List Nat}{n:Nat}(h:c.length-1≤3)(h8:n≤8):(Su112.waysOf (c.length-1) n).length≤100:=by
 rw[←ways_eq h h8]
 exact Nat.le_trans (List.length_filter_le _ _) (ways_few h).1
end Rb
namespace Wk
open PySem PySem.Spec PyProof.Rows L2 Rb
abbrev sBestW:Stmt:=mthB "best_way"
abbrev sWorstW:Stmt:=mthB "worst_way"
abbrev sBestO:Stmt:=mthB "best_order"
abbrev sInitB:Stmt:=mthB "__init__"
theorem okC_len {l:List Nat}(h:Su112.okC l=true):2≤l.length∧l.length≤4:=by
 unfold Su112.okC Su112.MACHINES at h
 rw[Bool.and_eq_true,Bool.and_eq_true] at h
 exact⟨of_decide_eq_true h.1,of_decide_eq_true h.2.1⟩
structure GFr (P:Program)(w:World)(tb CB br:Addr)(H0 H1:Hp)(D:Addr)(fs:List Su111.Fr)(m:Nat):Prop where
 keep:Ak H0 H1
 new:H0 D=none
 bo:Bo P w tb CB br H1 m
 at_:LstAt FrAt H1 D fs
 wd:∀f∈fs,Wide f
theorem GFr.start {P:Program}{w:World}{tb CB br:Addr}{H0:Hp}{D:Addr}{m:Nat}(B:Bo P w tb CB br H0 m)(h:H0 D=none):GFr P w tb CB br H0 (upd H0 D (.lst [])) D [] m:=
 ⟨Ak.of (Ae.upd h),h,B.same (Ae.upd h),⟨[],Ab,.nil⟩,fun f hf=>by simp at hf⟩
theorem GFr.grow {P:Program}{w:World}{tb CB br:Addr}{H0 H1 H2:Hp}{D p:Addr}{fs:List Su111.Fr}{f:Su111.Fr}{m m':Nat}(M:GFr P w tb CB br H0 H1 D fs m)(k:Ak H1 H2)(B:Bo P w tb CB br H2 m')(fr:FrAt H2 p f)(wd:Wide f)(hl:fs.length<10000):
  ∃gs,H2 D=some (.lst gs)∧gs.length<sizeLine∧GFr P w tb CB br H0 (upd H2 D (.lst (gs++[.ref p]))) D (fs++[f]) m':=by
 obtain⟨ts,h1,h2⟩:=M.at_
 have e2:=k.lst h1
 have nt:∀b o,H2 b=some o→(∀xs,o≠.lst xs)→(upd H2 D (.lst (ts.map V.ref++[.ref p]))) b=some o:=fun b o e h=>by
  rw[Ai (fun z=>by rw[z,e2] at e;exact h _ (Option.some.inj e).symm)];exact e
 have tk:∀b xs,H2 b=some (.tup xs)→(upd H2 D (.lst (ts.map V.ref++[.ref p]))) b=some (.tup xs):=fun b xs e=>nt b _ e (fun _ z=>by cases z)
 refine⟨ts.map V.ref,e2,?_,⟨fun b o e q1 q2=>?_,M.new,B.frame (fun b o e q _=>nt b o e q),⟨ts++[p],by rw[Ab,List.map_append];rfl,?_⟩,fun g hg=>?_⟩⟩
 ·
  rw[List.length_map,h2.length]
  exact Nat.lt_of_lt_of_le hl (by decide)
 ·
  rw[Ai (Aj e M.new)];exact k b o (M.keep b o e q1 q2) q1 q2
 ·
  exact Paired.snoc (Paired.mapP h2 fun t' y q=>tk _ _ (k.tup q)) (tk _ _ fr)
 ·
  rcases List.mem_append.mp hg with z | z
  ·
   exact M.wd g z
  ·
   rw[List.mem_singleton.mp z];exact wd
section
variable {P:Program}{w:World}{K:PySem.W.Frag}{mg:Str→Option Value}{base:Heap}
def spBW (P:Program)(w:World)(tb CB:Addr)(pk:List Nat→List (List Nat)→List Nat):Sp:=fun vs H Q _=>∃(br ca:Addr) (c:List Nat) (n m:Nat),vs=[.ref br,.ref ca,nV n]∧Bo P w tb CB br H m∧H ca=some (.lst (c.map nV))∧Su112.okC c=true∧n≤8∧Su112.waysOf (c.length-1) n≠[]∧m<9900000∧
 ∀(H':Hp) (p:Addr),Ak H H'→Bo P w tb CB br H' (m+100)→AR H' p (pk c (Su112.waysOf (c.length-1) n))→Q (.ref p) H'
theorem scBestW:Aq ["self","chances","room","ways","way"] ["self","chances","room"] (Ag sBestW):=⟨rfl,rfl,rfl,by decide +kernel,rfl,by decide +kernel,by decide +kernel⟩
theorem ok_BestW {f CB tb fB fM fW:Addr}{fd fdB fdM fdW:FuncData}(F:Fun K "best_way" "Brought.best_way" sBestW f fd)(CE:ClsEnvB K CB)(hB:AT K CB "brings" fB)(GB:Ah P w K mg base CX0 6 fB fdB ["self","chances","way"] (spBrB P w K tb CB))(bB:An K fdB ["self","chances","way"] [])
  (GM:Ah P w K mg base CX0 2 fM fdM ["fractions"] (spFirst Su111.less))(bM:An K fdM ["fractions"] [])(kM:PySem.W.keepIn K (.ref fM)=true)(mM:mg "first_most"=some (.ref fM))
  (GW:Ah P w K mg base CX0 3 fW fdW ["rooms","room_for_all"] spWaysOf)(bW:An K fdW ["rooms","room_for_all"] [])(kW:PySem.W.keepIn K (.ref fW)=true)(mW:mg "ways_of"=some (.ref fW))(mL:mg "len"=none):
  Ah P w K mg base CX0 7 f fd ["self","chances","room"] (spBW P w tb CB Su112.most):=by
 refine F.ok scBestW (fun vs H Q E h=>?_) (fun cdv A outer s H vs Q E hr h=>?_)
 ·
  obtain⟨br,ca,c,n,m,rfl,_⟩:=h
  rfl
 ·
  obtain⟨br,ca,c,n,m,rfl,B,hc,hok,h8,hne,hm,k⟩:=h
  have hr2:AM 2 _:=hr.mono (by decide)
  have hr3:AM 3 _:=hr.mono (by decide)
  obtain⟨h2,h4⟩:=okC_len hok
  have hpos:0<(Su112.waysOf (c.length-1) n).length:=List.length_pos_iff.mpr hne
  refine⟨_,Ad (As (i:=3) scBestW.nd rfl (Or.inl rfl) (Aw GW hr3 rfl mW kW bW .nil Ap (Aa (AH op_sub (Az (r:=rLenA K) At rfl mL PySem.boot_len (Aa (pv 1) Ac)) Ao) (Aa (pv 2) Ac))))<|
   Af (Al (AK AI (pv 3) (Aw GM hr2 rfl mM kM bM .nil Ap (Aa (pe_lc (own:=[("way",4)]) (g:=gName 4) rfl scBestW.nd (A1 (pv 3)) (A5 (by show blkC ["self","chances","room","ways","way"] (Ag sBestW) _ _=true;decide +kernel))
    (fun _ _ _ _ _=>Au (i:=4) scBestW.nd rfl (Or.inl rfl) (.inr rfl)) (fun _ _ _ _ _=>pts_nil) (fun _ _ _ _ _=>Ay (pv 0) CE.cls hB GB hr bB .nil Ap (Aa (pv 1) (Aa (pv 4) Ac)))) Ac)) (fun _ _=>rfl))),?_⟩
  refine⟨_,rfl,ca,_,rfl,.inl (SqL.of hc),_,_,rfl,rfl,_,rfl,c.length-1,n,?_,by omega,fun H1 lw s1 hlw=>?_⟩
  ·
   rw[List.length_map]
   have e:((c.length:Nat):Int)-1=((c.length-1:Nat):Int):=by omega
   show [V.int (((c.length:Nat):Int)-1),nV n]=[nV (c.length-1),nV n]
   rw[e];rfl
  rw[ways_eq (by omega) h8] at hlw
  obtain⟨ts,hts,hpt⟩:=hlw
  have hlen:ts.length=(Su112.waysOf (c.length-1) n).length:=hpt.length
  have h100:=ways_100 (c:=c) (n:=n) (by omega) h8
  refine⟨_,rfl,_,rfl,lw,rfl,⟨_,SqL.of hts⟩,fun D hD=>?_⟩
  refine lc_list (K:=K) (a:=lw) (xs:=ts.map V.ref) (fun i H'=>GFr P w tb CB br H1 H' D (((Su112.waysOf (c.length-1) n).take i).map (Su112.rate c)) (m+i)) (GFr.start (B.same s1) hD) (fun i H' _ M=>SqL.of (M.keep.lst hts)) ?_ ?_
  ·
   rintro i x H2 hi M
   obtain⟨t,ht,rfl⟩:=AL hi
   obtain⟨r,hri,hst⟩:=AF hpt ht
   have hrm:=List.mem_of_getElem? hri
   refine⟨rfl,?_⟩
   dsimp only[tYes]
   rw[if_pos rfl]
   obtain⟨dx,ba,kvs,hins,_⟩:=M.bo.ex
   have hil:i<(Su112.waysOf (c.length-1) n).length:=by
    rcases Nat.lt_or_ge i (Su112.waysOf (c.length-1) n).length with z | z
    ·
     exact z
    ·
     rw[List.getElem?_eq_none z] at hri;cases hri
   refine⟨_,rfl,br,dx,_,rfl,hins,rfl,_,rfl,_,rfl,br,ca,t,c,r,m+i,rfl,M.bo,.inl (SqL.of (M.keep.lst (s1 _ _ hc))),.inr (M.keep.tup hst),fine_of hok h8 hrm,by omega,fun H3 p k3 B3 fr sm=>?_⟩
   obtain⟨gs,a1,a2,a3⟩:=M.grow k3 B3 fr sm.wide (by rw[List.length_map,List.length_take];omega)
   refine⟨gs,a1,a2,?_⟩
   rw[AJ hri,List.map_append]
   exact a3
  ·
   rintro H2 M
   rw[List.length_map,hlen,List.take_length] at M
   refine⟨D,_,rfl,M.at_,by rw[List.length_map];exact hpos,M.wd,fun H3 s3=>?_⟩
   rw[List.length_map]
   have hj:=ixOf_lt Su111.less ((Su112.waysOf (c.length-1) n).map (Su112.rate c)) (by rw[List.length_map];exact hpos) (Su112.waysOf (c.length-1) n).length (by rw[List.length_map];exact Nat.le_refl _)
   rw[List.length_map] at hj
   have hix:=most_ix c (Su112.waysOf (c.length-1) n) hpos
   generalize ixOf Su111.less ((Su112.waysOf (c.length-1) n).map (Su112.rate c)) (Su112.waysOf (c.length-1) n).length=j at hj hix
   have kA:=Ak.trans (Ak.of s1) (Ak.trans M.keep (Ak.of s3))
   refine⟨lw,_,_,_,rfl,rfl,SqL.of (s3 _ _ (M.keep.lst hts)),bs_ix (by omega),?_⟩
   obtain⟨r,hr',hst⟩:=AF hpt (i:=j) (a:=ts.getD j 0) (by rw[List.getD_eq_getElem?_getD,List.getElem?_eq_getElem (by omega)];rfl)
   have e:r=Su112.most c (Su112.waysOf (c.length-1) n):=by rw[←hix,List.getD_eq_getElem?_getD,hr'];rfl
   rw[e] at hst
   exact k H3 _ kA ((M.bo.same s3).more (by omega)) (s3 _ _ (M.keep.tup hst))
theorem scWorstW:Aq ["self","chances","room","ways","way"] ["self","chances","room"] (Ag sWorstW):=⟨rfl,rfl,rfl,by decide +kernel,rfl,by decide +kernel,by decide +kernel⟩
theorem ok_WorstW {f CB tb fB fM fW:Addr}{fd fdB fdM fdW:FuncData}(F:Fun K "worst_way" "Brought.worst_way" sWorstW f fd)(CE:ClsEnvB K CB)(hB:AT K CB "brings" fB)(GB:Ah P w K mg base CX0 6 fB fdB ["self","chances","way"] (spBrB P w K tb CB))(bB:An K fdB ["self","chances","way"] [])
  (GM:Ah P w K mg base CX0 2 fM fdM ["fractions"] (spFirst (fun a b=>Su111.less b a)))(bM:An K fdM ["fractions"] [])(kM:PySem.W.keepIn K (.ref fM)=true)(mM:mg "first_fewest"=some (.ref fM))
  (GW:Ah P w K mg base CX0 3 fW fdW ["rooms","room_for_all"] spWaysOf)(bW:An K fdW ["rooms","room_for_all"] [])(kW:PySem.W.keepIn K (.ref fW)=true)(mW:mg "ways_of"=some (.ref fW))(mL:mg "len"=none):
  Ah P w K mg base CX0 7 f fd ["self","chances","room"] (spBW P w tb CB Su112.least):=by
 refine F.ok scWorstW (fun vs H Q E h=>?_) (fun cdv A outer s H vs Q E hr h=>?_)
 ·
  obtain⟨br,ca,c,n,m,rfl,_⟩:=h
  rfl
 ·
  obtain⟨br,ca,c,n,m,rfl,B,hc,hok,h8,hne,hm,k⟩:=h
  have hr2:AM 2 _:=hr.mono (by decide)
  have hr3:AM 3 _:=hr.mono (by decide)
  obtain⟨h2,h4⟩:=okC_len hok
  have hpos:0<(Su112.waysOf (c.length-1) n).length:=List.length_pos_iff.mpr hne
  refine⟨_,Ad (As (i:=3) scWorstW.nd rfl (Or.inl rfl) (Aw GW hr3 rfl mW kW bW .nil Ap (Aa (AH op_sub (Az (r:=rLenA K) At rfl mL PySem.boot_len (Aa (pv 1) Ac)) Ao) (Aa (pv 2) Ac))))<|
   Af (Al (AK AI (pv 3) (Aw GM hr2 rfl mM kM bM .nil Ap (Aa (pe_lc (own:=[("way",4)]) (g:=gName 4) rfl scWorstW.nd (A1 (pv 3)) (A5 (by show blkC ["self","chances","room","ways","way"] (Ag sWorstW) _ _=true;decide +kernel))
    (fun _ _ _ _ _=>Au (i:=4) scWorstW.nd rfl (Or.inl rfl) (.inr rfl)) (fun _ _ _ _ _=>pts_nil) (fun _ _ _ _ _=>Ay (pv 0) CE.cls hB GB hr bB .nil Ap (Aa (pv 1) (Aa (pv 4) Ac)))) Ac)) (fun _ _=>rfl))),?_⟩
  refine⟨_,rfl,ca,_,rfl,.inl (SqL.of hc),_,_,rfl,rfl,_,rfl,c.length-1,n,?_,by omega,fun H1 lw s1 hlw=>?_⟩
  ·
   rw[List.length_map]
   have e:((c.length:Nat):Int)-1=((c.length-1:Nat):Int):=by omega
   show [V.int (((c.length:Nat):Int)-1),nV n]=[nV (c.length-1),nV n]
   rw[e];rfl
  rw[ways_eq (by omega) h8] at hlw
  obtain⟨ts,hts,hpt⟩:=hlw
  have hlen:ts.length=(Su112.waysOf (c.length-1) n).length:=hpt.length
  have h100:=ways_100 (c:=c) (n:=n) (by omega) h8
  refine⟨_,rfl,_,rfl,lw,rfl,⟨_,SqL.of hts⟩,fun D hD=>?_⟩
  refine lc_list (K:=K) (a:=lw) (xs:=ts.map V.ref) (fun i H'=>GFr P w tb CB br H1 H' D (((Su112.waysOf (c.length-1) n).take i).map (Su112.rate c)) (m+i)) (GFr.start (B.same s1) hD) (fun i H' _ M=>SqL.of (M.keep.lst hts)) ?_ ?_
  ·
   rintro i x H2 hi M
   obtain⟨t,ht,rfl⟩:=AL hi
   obtain⟨r,hri,hst⟩:=AF hpt ht
   have hrm:=List.mem_of_getElem? hri
   refine⟨rfl,?_⟩
   dsimp only[tYes]
   rw[if_pos rfl]
   obtain⟨dx,ba,kvs,hins,_⟩:=M.bo.ex
   have hil:i<(Su112.waysOf (c.length-1) n).length:=by
    rcases Nat.lt_or_ge i (Su112.waysOf (c.length-1) n).length with z | z
    ·
     exact z
    ·
     rw[List.getElem?_eq_none z] at hri;cases hri
   refine⟨_,rfl,br,dx,_,rfl,hins,rfl,_,rfl,_,rfl,br,ca,t,c,r,m+i,rfl,M.bo,.inl (SqL.of (M.keep.lst (s1 _ _ hc))),.inr (M.keep.tup hst),fine_of hok h8 hrm,by omega,fun H3 p k3 B3 fr sm=>?_⟩
   obtain⟨gs,a1,a2,a3⟩:=M.grow k3 B3 fr sm.wide (by rw[List.length_map,List.length_take];omega)
   refine⟨gs,a1,a2,?_⟩
   rw[AJ hri,List.map_append]
   exact a3
  ·
   rintro H2 M
   rw[List.length_map,hlen,List.take_length] at M
   refine⟨D,_,rfl,M.at_,by rw[List.length_map];exact hpos,M.wd,fun H3 s3=>?_⟩
   rw[List.length_map]
   have hj:=ixOf_lt (fun a b=>Su111.less b a) ((Su112.waysOf (c.length-1) n).map (Su112.rate c)) (by rw[List.length_map];exact hpos) (Su112.waysOf (c.length-1) n).length (by rw[List.length_map];exact Nat.le_refl _)
   rw[List.length_map] at hj
   have hix:=least_ix c (Su112.waysOf (c.length-1) n) hpos
   generalize ixOf (fun a b=>Su111.less b a) ((Su112.waysOf (c.length-1) n).map (Su112.rate c)) (Su112.waysOf (c.length-1) n).length=j at hj hix
   have kA:=Ak.trans (Ak.of s1) (Ak.trans M.keep (Ak.of s3))
   refine⟨lw,_,_,_,rfl,rfl,SqL.of (s3 _ _ (M.keep.lst hts)),bs_ix (by omega),?_⟩
   obtain⟨r,hr',hst⟩:=AF hpt (i:=j) (a:=ts.getD j 0) (by rw[List.getD_eq_getElem?_getD,List.getElem?_eq_getElem (by omega)];rfl)
   have e:r=Su112.least c (Su112.waysOf (c.length-1) n):=by rw[←hix,List.getD_eq_getElem?_getD,hr'];rfl
   rw[e] at hst
   exact k H3 _ kA ((M.bo.same s3).more (by omega)) (s3 _ _ (M.keep.tup hst))
end
end Wk
namespace Rb
theorem fine_okW {a:Su112.Abs}{l:List Nat}(hc:Su112.okC a.chances=true)(h:a.okW l=true):Fine a.chances l:=by
 have hl:2≤a.chances.length∧a.chances.length≤4:=by
  unfold Su112.okC Su112.MACHINES at hc
  rw[Bool.and_eq_true,Bool.and_eq_true] at hc
  exact⟨of_decide_eq_true hc.1,of_decide_eq_true hc.2.1⟩
 unfold Su112.Abs.okW at h
 rw[Bool.and_eq_true,Bool.and_eq_true] at h
 have e1:l.length=a.chances.length-1:=beq_iff_eq.mp h.1
 refine⟨by omega,by omega,?_,h.2.1,h.2.2⟩
 unfold Su112.okC at hc
 rw[Bool.and_eq_true,Bool.and_eq_true] at hc
 intro x hx
 have:=List.all_eq_true.mp hc.2.2 x hx
 simp[Su111.okP] at this
 omega
theorem fine_order {a:Su112.Abs}{r o:List Nat}(F:Fine a.chances r)(hl:o.length=a.chances.length)(ho:∀y∈o,y<a.chances.length):Fine (a.inOrder o) r:=by
 refine⟨?_,F.few,?_,F.held,F.fit⟩
 ·
  unfold Su112.Abs.inOrder
  rw[List.length_map,hl];exact F.lens
 ·
  intro x hx
  unfold Su112.Abs.inOrder at hx
  obtain⟨y,hy,rfl⟩:=List.mem_map.mp hx
  exact F.ch _ (getD_mem _ _ _ (ho y hy))
theorem order_ix (a:Su112.Abs)(r:List Nat)(h:0<(Su112.orders a.m (List.range a.m)).length):
  (Su112.orders a.m (List.range a.m)).getD (ixOf Su111.less ((Su112.orders a.m (List.range a.m)).map fun o=>Su112.rate (a.inOrder o) r) (Su112.orders a.m (List.range a.m)).length) []=a.order r:=
 pick_all Su111.less less_irr (fun o=>Su112.rate (a.inOrder o) r) (Su112.orders a.m (List.range a.m)) [] h
end Rb
namespace Wk
open PySem PySem.Spec PyProof.Rows L2 Rb
section
variable {P:Program}{w:World}{K:PySem.W.Frag}{mg:Str→Option Value}{base:Heap}
def spBO (P:Program)(w:World)(K:PySem.W.Frag)(tb CB:Addr):Sp:=fun vs H Q _=>∃(br ca wa:Addr) (a:Su112.Abs) (r:List Nat) (m:Nat),vs=[.ref br,.ref ca,.ref wa]∧Bo P w tb CB br H m∧H ca=some (.lst (a.chances.map nV))∧Su112.okC a.chances=true∧WayAt K H wa r∧a.okW r=true∧m<9900000∧
 ∀(H':Hp) (p:Addr),Ak H H'→Bo P w tb CB br H' (m+100)→AR H' p (a.order r)→(a.order r).length=a.chances.length→(∀y∈a.order r,y<a.chances.length)→Q (.ref p) H'
theorem scBestO:Aq ["self","chances","way","orders","order"] ["self","chances","way"] (Ag sBestO):=⟨rfl,rfl,rfl,by decide +kernel,rfl,by decide +kernel,by decide +kernel⟩
theorem ok_bestO {f CB tb fB fM fO fI:Addr}{fd fdB fdM fdO fdI:FuncData}(F:Fun K "best_order" "Brought.best_order" sBestO f fd)(CE:ClsEnvB K CB)(hB:AT K CB "brings" fB)(GB:Ah P w K mg base CX0 6 fB fdB ["self","chances","way"] (spBrB P w K tb CB))(bB:An K fdB ["self","chances","way"] [])
  (GM:Ah P w K mg base CX0 2 fM fdM ["fractions"] (spFirst Su111.less))(bM:An K fdM ["fractions"] [])(kM:PySem.W.keepIn K (.ref fM)=true)(mM:mg "first_most"=some (.ref fM))
  (GO:Ah P w K mg base CX0 2 fO fdO ["machines"] spAllO)(bO:An K fdO ["machines"] [])(kO:PySem.W.keepIn K (.ref fO)=true)(mO:mg "all_orders"=some (.ref fO))
  (GI:Ah P w K mg base CX0 1 fI fdI ["chances","order"] (spInO K))(bI:An K fdI ["chances","order"] [])(kI:PySem.W.keepIn K (.ref fI)=true)(mI:mg "in_order"=some (.ref fI))(mL:mg "len"=none):
  Ah P w K mg base CX0 7 f fd ["self","chances","way"] (spBO P w K tb CB):=by
 refine F.ok scBestO (fun vs H Q E h=>?_) (fun cdv A outer s H vs Q E hr h=>?_)
 ·
  obtain⟨br,ca,wa,a,r,m,rfl,_⟩:=h
  rfl
 ·
  obtain⟨br,ca,wa,a,r,m,rfl,B,hc,hok,hw,hz,hm,k⟩:=h
  have hr1:AM 1 _:=hr.mono (by decide)
  have hr2:AM 2 _:=hr.mono (by decide)
  obtain⟨h2,h4⟩:=okC_len hok
  have hF:=fine_okW hok hz
  obtain⟨f24,hpos,fo⟩:=ords_few (m:=a.m) (k:=a.m) h4 (Nat.le_refl _)
  rw[ords_eq (m:=a.m) h4] at f24 hpos fo
  have hml:a.m=a.chances.length:=rfl
  refine⟨_,Ad (As (i:=3) scBestO.nd rfl (Or.inl rfl) (Aw GO hr2 rfl mO kO bO .nil Ap (Aa (Az (r:=rLenA K) At rfl mL PySem.boot_len (Aa (pv 1) Ac)) Ac)))<|
   Af (Al (AK AI (pv 3) (Aw GM hr2 rfl mM kM bM .nil Ap (Aa (pe_lc (own:=[("order",4)]) (g:=gName 4) rfl scBestO.nd (A1 (pv 3)) (A5 (by show blkC ["self","chances","way","orders","order"] (Ag sBestO) _ _=true;decide +kernel))
    (fun _ _ _ _ _=>Au (i:=4) scBestO.nd rfl (Or.inl rfl) (.inr rfl)) (fun _ _ _ _ _=>pts_nil) (fun _ _ _ _ _=>Ay (pv 0) CE.cls hB GB hr bB .nil Ap (Aa (Aw GI hr1 rfl mI kI bI .nil Ap (Aa (pv 1) (Aa (pv 4) Ac))) (Aa (pv 2) Ac)))) Ac)) (fun _ _=>rfl))),?_⟩
  refine⟨_,rfl,ca,_,rfl,.inl (SqL.of hc),a.m,?_,h4,fun H1 lw s1 hlw=>?_⟩
  ·
   rw[List.length_map];rfl
  obtain⟨ts,hts,hpt⟩:=hlw
  have hlen:ts.length=(Su112.orders a.m (List.range a.m)).length:=hpt.length
  have hix:=order_ix a r hpos
  generalize hos:Su112.orders a.m (List.range a.m)=os at hpt hlen hix f24 hpos fo
  refine⟨_,rfl,_,rfl,lw,rfl,⟨_,SqL.of hts⟩,fun D hD=>?_⟩
  refine lc_list (K:=K) (a:=lw) (xs:=ts.map V.ref) (fun i H'=>GFr P w tb CB br H1 H' D ((os.take i).map fun o=>Su112.rate (a.inOrder o) r) (m+i)) (GFr.start (B.same s1) hD) (fun i H' _ M=>SqL.of (M.keep.lst hts)) ?_ ?_
  ·
   rintro i x H2 hi M
   obtain⟨t,ht,rfl⟩:=AL hi
   obtain⟨o,hoi,hst⟩:=AF hpt ht
   have hom:=fo o (List.mem_of_getElem? hoi)
   refine⟨rfl,?_⟩
   dsimp only[tYes]
   rw[if_pos rfl]
   obtain⟨dx,ba,kvs,hins,_⟩:=M.bo.ex
   have hil:i<os.length:=by
    rcases Nat.lt_or_ge i os.length with z | z
    ·
     exact z
    ·
     rw[List.getElem?_eq_none z] at hoi;cases hoi
   refine⟨_,rfl,br,dx,_,rfl,hins,rfl,_,rfl,_,rfl,ca,t,a.chances,o,rfl,M.keep.lst (s1 _ _ hc),M.keep.tup hst,hom.2,by omega,fun H3 C3 s3 hn3 at3=>?_⟩
   refine⟨_,rfl,br,C3,wa,a.inOrder o,r,m+i,rfl,M.bo.same s3,.inl (SqL.of at3),(Ak.trans (Ak.of s1) (Ak.trans M.keep (Ak.of s3))).way hw,fine_order hF hom.1 hom.2,by omega,fun H4 p k4 B4 fr sm=>?_⟩
   obtain⟨gs,a1,a2,a3⟩:=M.grow (Ak.trans (Ak.of s3) k4) B4 fr sm.wide (by rw[List.length_map,List.length_take];omega)
   refine⟨gs,a1,a2,?_⟩
   rw[AJ hoi,List.map_append]
   exact a3
  ·
   rintro H2 M
   rw[List.length_map,hlen,List.take_length] at M
   refine⟨D,_,rfl,M.at_,by rw[List.length_map];exact hpos,M.wd,fun H3 s3=>?_⟩
   rw[List.length_map]
   have hj:=ixOf_lt Su111.less (os.map fun o=>Su112.rate (a.inOrder o) r) (by rw[List.length_map];exact hpos) os.length (by rw[List.length_map];exact Nat.le_refl _)
   rw[List.length_map] at hj
   generalize ixOf Su111.less (os.map fun o=>Su112.rate (a.inOrder o) r) os.length=j at hj hix
   have kA:=Ak.trans (Ak.of s1) (Ak.trans M.keep (Ak.of s3))
   refine⟨lw,_,_,_,rfl,rfl,SqL.of (s3 _ _ (M.keep.lst hts)),bs_ix (by omega),?_⟩
   obtain⟨o,ho',hst⟩:=AF hpt (i:=j) (a:=ts.getD j 0) (by rw[List.getD_eq_getElem?_getD,List.getElem?_eq_getElem (by omega)];rfl)
   have e:o=a.order r:=by rw[←hix,List.getD_eq_getElem?_getD,ho'];rfl
   have hom:=fo o (List.mem_of_getElem? ho')
   rw[e] at hst hom
   exact k H3 _ kA ((M.bo.same s3).more (by omega)) (s3 _ _ (M.keep.tup hst)) hom.1 hom.2
def spInitB (P:Program)(w:World)(tb CB:Addr):Sp:=fun vs H Q _=>∃(br dx:Addr),vs=[.ref br]∧H br=some (.ins CB dx [])∧Tab tb lPos lQual H∧
 ∀(H':Hp),Bo P w tb CB br H' 0→(∀b o,H b=some o→b≠br→H' b=some o)→Q .non H'
theorem scInitB:Aq ["self"] ["self"] (Ag sInitB):=⟨rfl,rfl,rfl,by decide +kernel,rfl,by decide +kernel,by decide +kernel⟩
theorem ok_initB {f CB tb:Addr}{fd:FuncData}(F:Fun K "__init__" "Brought.__init__" sInitB f fd)(CE:ClsEnvB K CB):Ah P w K mg base CX0 1 f fd ["self"] (spInitB P w tb CB):=by
 refine F.ok scInitB (fun vs H Q E h=>?_) (fun cdv A outer s H vs Q E hr h=>?_)
 ·
  obtain⟨x,dx,rfl,_⟩:=h
  rfl
 ·
  obtain⟨x,dx,rfl,hx,tab,k⟩:=h
  refine⟨_,Af (ps_fld (pv 0) pe_dnewN rfl),?_⟩
  intro ba hba
  have hbx:ba≠x:=fun z=>by rw[z,hx] at hba;cases hba
  have s1:=Ae.upd (o:=.ext (dNo P w ba [])) hba
  refine⟨_,rfl,x,CB,dx,_,rfl,s1 _ _ hx,CE.cls,CE.nK,(by show 0<1000;decide),?_⟩
  have kp:∀b o,H b=some o→b≠x→(upd (upd H ba (.ext (dNo P w ba []))) x (.ins CB dx [("known",.ref ba)])) b=some o:=fun b o e hb=>by
   rw[Ai hb];exact s1 _ _ e
  obtain⟨ps,h1,h2,h3⟩:=tab.ex
  refine k _ ⟨⟨ps,kp _ _ h1 (fun z=>by rw[z,hx] at h1;cases h1),h2,?_⟩,dx,ba,[],Ab,⟨?_,fun q hq=>by simp at hq⟩,(fun (q:List (List Key)×Addr×Addr) (hq:q∈[])=>absurd hq (by simp)),Nat.le_refl _⟩ kp
  ·
   rcases h3 with z | ⟨cc,z,e⟩
   ·
    exact .inl z
   ·
    exact .inr ⟨cc,z,kp _ _ e (fun z=>by rw[z,hx] at e;cases e)⟩
  ·
   rw[Ai hbx];exact Ab
end
end Wk
namespace Wk
open PySem PySem.Spec PyProof.Rows L2 Rb
abbrev sBegun:Stmt:=mth "has_begun"
abbrev sHasM:Stmt:=mth "has_machine"
abbrev sRooms:Stmt:=mth "rooms"
abbrev sAllW:Stmt:=mth "ways_of_all_room"
structure LnR (x C dx ca ba:Addr)(H:Hp)(c:List Nat)(n:Nat):Prop where
 ins:H x=some (.ins C dx (lineF ca n ba))
 ch:H ca=some (.lst (c.map nV))
theorem Ln.shows {P:Program}{w:World}{tb CB x C dx ca ba:Addr}{H:Hp}{c:List Nat}{n m:Nat}(L:Ln P w tb CB x C dx ca ba H c n m):LnR x C dx ca ba H c n:=⟨L.ins,L.ch⟩
section
variable {P:Program}{w:World}{K:PySem.W.Frag}{mg:Str→Option Value}{base:Heap}
def spBegun (C:Addr):Sp:=fun vs H Q _=>∃(x dx ca ba:Addr) (c:List Nat) (n:Nat),vs=[.ref x]∧LnR x C dx ca ba H c n∧Q (.bl (decide (0<c.length))) H
theorem scBegun:Aq ["self"] ["self"] (Ag sBegun):=⟨rfl,rfl,rfl,by decide +kernel,rfl,by decide +kernel,by decide +kernel⟩
theorem ok_begun {f C:Addr}{fd:FuncData}(F:Fun K "has_begun" "Line.has_begun" sBegun f fd)(CE:AO K C)(mL:mg "len"=none):Ah P w K mg base CX0 1 f fd ["self"] (spBegun C):=by
 refine F.ok scBegun (fun vs H Q E h=>?_) (fun cdv A outer s H vs Q E hr h=>?_)
 ·
  obtain⟨x,dx,ca,ba,c,n,rfl,_⟩:=h
  rfl
 ·
  obtain⟨x,dx,ca,ba,c,n,rfl,L,k⟩:=h
  refine⟨_,Af (Al (pe_cmpR op_gt (Az (r:=rLenA K) At rfl mL PySem.boot_len (Aa (AE (pv 0) rfl) Ac)) Ao (AA _))),?_⟩
  refine⟨_,rfl,x,C,dx,_,_,rfl,L.ins,CE.cls,CE.nC,rfl,ca,_,rfl,.inl (SqL.of L.ch),_,_,rfl,rfl,?_⟩
  rw[List.length_map]
  have e:decide ((0:Int)<((c.length:Nat):Int))=decide (0<c.length):=decide_eq_decide.mpr (by omega)
  show Q (V.bl (decide ((0:Int)<((c.length:Nat):Int)))) H
  rw[e];exact k
def spHasM (C:Addr):Sp:=fun vs H Q _=>∃(x dx ca ba:Addr) (c:List Nat) (n i:Nat),vs=[.ref x,nV i]∧LnR x C dx ca ba H c n∧Q (.bl (decide (i<c.length))) H
theorem scHasM:Aq ["self","machine"] ["self","machine"] (Ag sHasM):=⟨rfl,rfl,rfl,by decide +kernel,rfl,by decide +kernel,by decide +kernel⟩
theorem ok_hasM {f C:Addr}{fd:FuncData}(F:Fun K "has_machine" "Line.has_machine" sHasM f fd)(CE:AO K C)(mL:mg "len"=none):Ah P w K mg base CX0 1 f fd ["self","machine"] (spHasM C):=by
 refine F.ok scHasM (fun vs H Q E h=>?_) (fun cdv A outer s H vs Q E hr h=>?_)
 ·
  obtain⟨x,dx,ca,ba,c,n,i,rfl,_⟩:=h
  rfl
 ·
  obtain⟨x,dx,ca,ba,c,n,i,rfl,L,k⟩:=h
  refine⟨_,Af (Al (pe_cmpR op_lt (pv 1) (Az (r:=rLenA K) At rfl mL PySem.boot_len (Aa (AE (pv 0) rfl) Ac)) (AA _))),?_⟩
  refine⟨_,rfl,_,rfl,x,C,dx,_,_,rfl,L.ins,CE.cls,CE.nC,rfl,ca,_,rfl,.inl (SqL.of L.ch),_,_,rfl,rfl,?_⟩
  rw[List.length_map]
  have e:decide (((i:Nat):Int)<((c.length:Nat):Int))=decide (i<c.length):=decide_eq_decide.mpr (by omega)
  show Q (V.bl (decide (((i:Nat):Int)<((c.length:Nat):Int)))) H
  rw[e];exact k
def spRooms (C:Addr):Sp:=fun vs H Q _=>∃(x dx ca ba:Addr) (c:List Nat) (n:Nat),vs=[.ref x]∧LnR x C dx ca ba H c n∧1≤c.length∧Q (nV (c.length-1)) H
theorem scRooms:Aq ["self"] ["self"] (Ag sRooms):=⟨rfl,rfl,rfl,by decide +kernel,rfl,by decide +kernel,by decide +kernel⟩
theorem ok_rooms {f C:Addr}{fd:FuncData}(F:Fun K "rooms" "Line.rooms" sRooms f fd)(CE:AO K C)(mL:mg "len"=none):Ah P w K mg base CX0 1 f fd ["self"] (spRooms C):=by
 refine F.ok scRooms (fun vs H Q E h=>?_) (fun cdv A outer s H vs Q E hr h=>?_)
 ·
  obtain⟨x,dx,ca,ba,c,n,rfl,_⟩:=h
  rfl
 ·
  obtain⟨x,dx,ca,ba,c,n,rfl,L,h1,k⟩:=h
  refine⟨_,Af (Al (AH op_sub (Az (r:=rLenA K) At rfl mL PySem.boot_len (Aa (AE (pv 0) rfl) Ac)) Ao)),?_⟩
  refine⟨_,rfl,x,C,dx,_,_,rfl,L.ins,CE.cls,CE.nC,rfl,ca,_,rfl,.inl (SqL.of L.ch),_,_,rfl,rfl,?_⟩
  rw[List.length_map]
  have e:((c.length:Nat):Int)-1=((c.length-1:Nat):Int):=by omega
  show Q (V.int (((c.length:Nat):Int)-1)) H
  rw[e];exact k
def spAllW (C:Addr):Sp:=fun vs H Q _=>∃(x dx ca ba:Addr) (c:List Nat) (n:Nat),vs=[.ref x]∧LnR x C dx ca ba H c n∧1≤c.length∧c.length≤4∧n≤8∧∀(H':Hp) (l:Addr),Ae H H'→LstAt AR H' l (Su112.waysOf (c.length-1) n)→Q (.ref l) H'
theorem scAllW:Aq ["self"] ["self"] (Ag sAllW):=⟨rfl,rfl,rfl,by decide +kernel,rfl,by decide +kernel,by decide +kernel⟩
theorem ok_allW {f C fR fW:Addr}{fd fdR fdW:FuncData}(F:Fun K "ways_of_all_room" "Line.ways_of_all_room" sAllW f fd)(CE:AO K C)(hR:AT K C "rooms" fR)(GR:Ah P w K mg base CX0 1 fR fdR ["self"] (spRooms C))(bR:An K fdR ["self"] [])
  (GW:Ah P w K mg base CX0 3 fW fdW ["rooms","room_for_all"] spWaysOf)(bW:An K fdW ["rooms","room_for_all"] [])(kW:PySem.W.keepIn K (.ref fW)=true)(mW:mg "ways_of"=some (.ref fW)):Ah P w K mg base CX0 4 f fd ["self"] (spAllW C):=by
 refine F.ok scAllW (fun vs H Q E h=>?_) (fun cdv A outer s H vs Q E hr h=>?_)
 ·
  obtain⟨x,dx,ca,ba,c,n,rfl,_⟩:=h
  rfl
 ·
  obtain⟨x,dx,ca,ba,c,n,rfl,L,h1,h4,h8,k⟩:=h
  have hr1:AM 1 _:=hr.mono (by decide)
  refine⟨_,Af (Al (Aw GW hr rfl mW kW bW .nil Ap (Aa (AQ (pv 0) CE.cls hR GR hr1 bR .nil Ap) (Aa (AE (pv 0) rfl) Ac)))),?_⟩
  refine⟨_,rfl,x,dx,_,rfl,L.ins,rfl,x,dx,ca,ba,c,n,rfl,L,h1,?_⟩
  refine⟨_,rfl,x,C,dx,_,_,rfl,L.ins,CE.cls,CE.nR,rfl,c.length-1,n,rfl,by omega,fun H' l s1 hl=>k H' l s1 ?_⟩
  rw[ways_eq (by omega) h8] at hl;exact hl
abbrev sHigh:Stmt:=mth "may_be_higher"
abbrev sCan:Stmt:=mth "can_be_put"
def spHigh (C:Addr):Sp:=fun vs H Q _=>∃(x dx ca ba:Addr) (c:List Nat) (n i:Nat),vs=[.ref x,nV i]∧LnR x C dx ca ba H c n∧i<c.length∧Q (.bl (decide (c.getD i 0<9))) H
theorem scHigh:Aq ["self","machine"] ["self","machine"] (Ag sHigh):=⟨rfl,rfl,rfl,by decide +kernel,rfl,by decide +kernel,by decide +kernel⟩
theorem ok_high {f C:Addr}{fd:FuncData}(F:Fun K "may_be_higher" "Line.may_be_higher" sHigh f fd)(CE:AO K C)(n9:Num mg "MOST_TENTHS" 9):Ah P w K mg base CX0 1 f fd ["self","machine"] (spHigh C):=by
 obtain⟨u9,m9,r9⟩:=n9
 refine F.ok scHigh (fun vs H Q E h=>?_) (fun cdv A outer s H vs Q E hr h=>?_)
 ·
  obtain⟨x,dx,ca,ba,c,n,i,rfl,_⟩:=h
  rfl
 ·
  obtain⟨x,dx,ca,ba,c,n,i,rfl,L,hi,k⟩:=h
  refine⟨_,Af (Al (pe_cmpR op_lt (AK AI (AE (pv 0) rfl) (pv 1) (fun _ _=>rfl)) (Av rfl m9 r9) (AA _))),?_⟩
  refine⟨_,rfl,x,C,dx,_,_,rfl,L.ins,CE.cls,CE.nC,rfl,_,rfl,ca,_,_,_,rfl,rfl,SqL.of L.ch,at_nV hi,_,_,rfl,rfl,?_⟩
  have e:decide (((c.getD i 0:Nat):Int)<9)=decide (c.getD i 0<9):=decide_eq_decide.mpr (by omega)
  show Q (V.bl (decide (((c.getD i 0:Nat):Int)<9))) H
  rw[e];exact k
def canB (c:List Nat)(r:Nat):Bool:=decide (r≤8∧Su112.waysOf (c.length-1) r≠[])
def spCan (C:Addr):Sp:=fun vs H Q _=>∃(x dx ca ba:Addr) (c:List Nat) (n r:Nat),vs=[.ref x,nV r]∧LnR x C dx ca ba H c n∧1≤c.length∧c.length≤4∧∀H',Ae H H'→Q (.bl (canB c r)) H'
theorem scCan:Aq ["self","room"] ["self","room"] (Ag sCan):=⟨rfl,rfl,rfl,by decide +kernel,rfl,by decide +kernel,by decide +kernel⟩
theorem ok_can {f C fR fW:Addr}{fd fdR fdW:FuncData}(F:Fun K "can_be_put" "Line.can_be_put" sCan f fd)(CE:AO K C)(hR:AT K C "rooms" fR)(GR:Ah P w K mg base CX0 1 fR fdR ["self"] (spRooms C))(bR:An K fdR ["self"] [])
  (GW:Ah P w K mg base CX0 3 fW fdW ["rooms","room_for_all"] spWaysOf)(bW:An K fdW ["rooms","room_for_all"] [])(kW:PySem.W.keepIn K (.ref fW)=true)(mW:mg "ways_of"=some (.ref fW))(mL:mg "len"=none)(n8:Num mg "MOST_FOR_ALL" 8):Ah P w K mg base CX0 4 f fd ["self","room"] (spCan C):=by
 obtain⟨u8,m8,r8⟩:=n8
 refine F.ok scCan (fun vs H Q E h=>?_) (fun cdv A outer s H vs Q E hr h=>?_)
 ·
  obtain⟨x,dx,ca,ba,c,n,r,rfl,_⟩:=h
  rfl
 ·
  obtain⟨x,dx,ca,ba,c,n,r,rfl,L,h1,h4,k⟩:=h
  have hr1:AM 1 _:=hr.mono (by decide)
  refine⟨_,Af (Al (pe_and (pe_cmpR op_le (pv 1) (Av rfl m8 r8) (AA _)) (pe_one (pe_cmpR op_gt (Az (r:=rLenA K) At rfl mL PySem.boot_len (Aa (Aw GW hr rfl mW kW bW .nil Ap (Aa (AQ (pv 0) CE.cls hR GR hr1 bR .nil Ap) (Aa (pv 1) Ac))) Ac)) Ao (AA _))))),?_⟩
  refine⟨_,rfl,_,_,rfl,rfl,_,rfl,?_⟩
  by_cases e:((r:Nat):Int)≤8
  ·
   rw[decide_eq_true e]
   refine AY ?_
   refine⟨_,rfl,x,dx,_,rfl,L.ins,rfl,x,dx,ca,ba,c,n,rfl,L,h1,_,rfl,c.length-1,r,rfl,by omega,fun H1 lw s1 hlw=>?_⟩
   rw[ways_eq (by omega) (by omega)] at hlw
   obtain⟨ts,hts,hpt⟩:=hlw
   refine⟨lw,_,rfl,.inl (SqL.of hts),_,_,rfl,rfl,?_⟩
   rw[List.length_map,hpt.length]
   have q:=k H1 s1
   have e2:canB c r=decide ((0:Int)<(((Su112.waysOf (c.length-1) r).length:Nat):Int)):=by
    unfold canB
    apply decide_eq_decide.mpr
    rw[←List.length_pos_iff]
    omega
   rw[e2] at q
   exact q
  ·
   rw[decide_eq_false e]
   refine A3 ?_
   have q:=k H (Ae.refl _)
   have e2:canB c r=false:=decide_eq_false (by omega)
   rw[e2] at q
   exact q
end
end Wk
namespace Wk
open PySem PySem.Spec PyProof.Rows L2 Rb
abbrev sBegin:Stmt:=mth "begin"
abbrev sTotal:Stmt:=mth "total"
structure Stp (P:Program)(w:World)(tb CB x C dx ca ba:Addr)(H H':Hp)(ca':Addr)(c':List Nat)(n' m':Nat):Prop where
 ln:Ln P w tb CB x C dx ca' ba H' c' n' m'
 kp:∀b o,H b=some o→b≠x→b≠ca→(∀ps,o≠.tbl ps)→(∀φ,o≠.ext φ)→H' b=some o
 new:ca'=ca∨H ca'=none
theorem put_ch (ca ca' ba:Addr)(n:Nat):putF "chances" (.ref ca') (lineF ca n ba)=lineF ca' n ba:=rfl
theorem put_room (ca ba:Addr)(n n':Nat):putF "room_for_all" (nV n') (lineF ca n ba)=lineF ca n' ba:=rfl
theorem Ln.put {P:Program}{w:World}{tb CB x C dx ca ba ca':Addr}{H:Hp}{c c':List Nat}{n n' m:Nat}(L:Ln P w tb CB x C dx ca ba H c n m)(h:H ca'=some (.lst (c'.map nV))):Ln P w tb CB x C dx ca' ba (upd H x (.ins C dx (lineF ca' n' ba))) c' n' m:=by
 refine⟨Ab,?_,L.bo.frame fun b o e _ q=>?_⟩
 ·
  rw[Ai (fun z=>by rw[z,L.ins] at h;cases h)];exact h
 ·
  rw[Ai (fun z=>by
   rw[z,L.ins] at e
   exact q _ _ _ (Option.some.inj e).symm rfl)]
  exact e
section
variable {P:Program}{w:World}{K:PySem.W.Frag}{mg:Str→Option Value}{base:Heap}
def spBegin (P:Program)(w:World)(K:PySem.W.Frag)(tb CB C:Addr):Sp:=fun vs H Q _=>∃(x ga dx ca ba:Addr) (c l:List Nat) (n m:Nat),vs=[.ref x,.ref ga]∧SqL K H ga (l.map nV)∧l.length≤1000∧Ln P w tb CB x C dx ca ba H c n m∧
 ∀(H':Hp) (p ca':Addr),Stp P w tb CB x C dx ca ba H H' ca' (if Su112.okC l=true then l else c) (if Su112.okC l=true then l.length-1 else n) m→H p=none→H' p=some (.lst [.int (if Su112.okC l=true then 0 else -22)])→Q (.ref p) H'
theorem scBegin:Aq ["self","chances"] ["self","chances"] (Ag sBegin):=⟨rfl,rfl,rfl,by decide +kernel,rfl,by decide +kernel,by decide +kernel⟩
theorem ok_begin {f C CB tb fR fA:Addr}{fd fdR fdA:FuncData}(F:Fun K "begin" "Line.begin" sBegin f fd)(CE:AO K C)(hR:AT K C "rooms" fR)(GR:Ah P w K mg base CX0 1 fR fdR ["self"] (spRooms C))(bR:An K fdR ["self"] [])
  (GA:Ah P w K mg base CX0 2 fA fdA ["chances"] (spAreCh K))(bA:An K fdA ["chances"] [])(kA:PySem.W.keepIn K (.ref fA)=true)(mA:mg "are_chances"=some (.ref fA))(mLi:mg "list"=none)(nO:Num mg "OUT_OF_RANGE" (-22)):Ah P w K mg base CX0 3 f fd ["self","chances"] (spBegin P w K tb CB C):=by
 obtain⟨u22,m22,r22⟩:=nO
 refine F.ok scBegin (fun vs H Q E h=>?_) (fun cdv A outer s H vs Q E hr h=>?_)
 ·
  obtain⟨x,ga,dx,ca,ba,c,l,n,m,rfl,_⟩:=h
  rfl
 ·
  obtain⟨x,ga,dx,ca,ba,c,l,n,m,rfl,hl,h1000,L,k⟩:=h
  have hr1:AM 1 _:=hr.mono (by decide)
  refine⟨_,Ad (AN (pt_not (pt_val (Aw GA hr rfl mA kA bA .nil Ap (Aa (pv 1) Ac)))) (Af (Al (AD (Aa (Av rfl m22 r22) Ac)))) Ax)<|
   Ad (ps_fld (pv 0) (A2 AX rfl mLi (by decide +kernel) (Aa (pv 1) Ac)) rfl)<|
   Ad (ps_fld (pv 0) (AQ (pv 0) CE.cls hR GR hr1 bR .nil Ap) rfl)<|
   Af (Al (AD (Aa Ao Ac))),?_⟩
  refine⟨_,rfl,ga,l,rfl,hl,h1000,fun H1 s1=>⟨_,rfl,?_⟩⟩
  have L1:=L.same s1
  cases hz:Su112.okC l with
  |
   false=>
   rw[hz] at k
   refine AY ⟨(by show 1≤sizeLine;decide),fun p hp=>?_⟩
   have s2:Ae H (upd H1 p (.lst [.int (-22)])):=Ae.trans s1 (Ae.upd hp)
   exact k _ p ca ⟨L.same s2,fun b o e _ _ _ _=>s2 _ _ e,.inl rfl⟩ (s1.free hp) Ab
  |
   true=>
   rw[hz] at k
   refine A3 ?_
   refine⟨_,rfl,ga,_,rfl,.inl (Ae.seq s1 hl),fun ca' hca=>?_⟩
   have s2:Ae H1 (upd H1 ca' (.lst (l.map nV))):=Ae.upd hca
   have L2':=L1.same s2
   refine⟨_,rfl,x,C,dx,_,rfl,L2'.ins,CE.cls,CE.nC,(by show 3<1000;decide),?_⟩
   rw[put_ch]
   have L3:=Ln.put (n':=n) L2' (ca':=ca') (c':=l) Ab
   have hlen:2≤l.length:=by
    unfold Su112.okC at hz
    rw[Bool.and_eq_true] at hz
    exact of_decide_eq_true hz.1
   refine⟨_,rfl,x,dx,_,rfl,L3.ins,rfl,x,dx,ca',ba,l,n,rfl,L3.shows,by omega,?_⟩
   refine⟨_,rfl,x,C,dx,_,rfl,L3.ins,CE.cls,CE.nR,(by show 3<1000;decide),?_⟩
   rw[put_room,upd_upd]
   have L4:=Ln.put (n':=l.length-1) L2' (ca':=ca') (c':=l) Ab
   refine⟨(by show 1≤sizeLine;decide),fun p hp=>?_⟩
   have hpx:p≠x:=fun z=>by rw[z,Ab] at hp;cases hp
   have hp2:(upd H1 ca' (.lst (l.map nV))) p=none:=by rw[Ai hpx] at hp;exact hp
   refine k _ p ca' ⟨L4.same (Ae.upd hp),fun b o e hb _ _ _=>?_,.inr (s1.free hca)⟩ (s1.free (s2.free hp2)) Ab
   rw[Ai (Aj (s2 _ _ (s1 _ _ e)) hp2),Ai hb]
   exact s2 _ _ (s1 _ _ e)
end
end Wk
namespace Wk
open PySem PySem.Spec PyProof.Rows L2 Rb
abbrev sChance:Stmt:=mth "chance"
abbrev sSwap:Stmt:=mth "swap"
def ansL (z:Su112.Ans):List V:=(z.value::z.out).map V.int
structure Good (a:Su112.Abs):Prop where
 ch:Su112.okC a.chances=true
 le:a.gaps≤a.total
 top:a.total≤8
 some_:Su112.waysOf a.gaps a.total≠[]
theorem does_total (a:Su112.Abs)(r:Nat):Su112.does a (.total r)=if r<a.gaps∨Su112.TOTAL<r∨Su112.waysOf a.gaps r=[] then (a,Su112.no (-22)) else ({a with total:=r},Su112.num a.total []):=rfl
def NewL (H:Hp)(p:Addr):Prop:=∀b xs,H b=some (.lst xs)→b≠p
theorem NewL.of {H:Hp}{p:Addr}(h:H p=none):NewL H p:=fun b xs e=>Aj e h
section
variable {P:Program}{w:World}{K:PySem.W.Frag}{mg:Str→Option Value}{base:Heap}
def spM (P:Program)(w:World)(tb CB C:Addr)(args:List V→Su112.Call→Hp→Prop):Sp:=fun vs H Q _=>∃(x dx ca ba:Addr) (as:List V) (cl:Su112.Call) (a:Su112.Abs) (m:Nat),vs=.ref x::as∧args as cl H∧Ln P w tb CB x C dx ca ba H a.chances a.total m∧Good a∧m<9000000∧
 ∀(H':Hp) (p ca':Addr),Stp P w tb CB x C dx ca ba H H' ca' (Su112.does a cl).1.chances (Su112.does a cl).1.total (m+1000)→NewL H p→H' p=some (.lst (ansL (Su112.does a cl).2))→Q (.ref p) H'
theorem Ln.more {tb CB x C dx ca ba:Addr}{H:Hp}{c:List Nat}{n m m':Nat}(L:Ln P w tb CB x C dx ca ba H c n m)(h:m≤m'):Ln P w tb CB x C dx ca ba H c n m':=⟨L.ins,L.ch,L.bo.more h⟩
theorem stp_same {tb CB x C dx ca ba:Addr}{H H':Hp}{c:List Nat}{n m:Nat}(L:Ln P w tb CB x C dx ca ba H c n m)(s:Ae H H'):Stp P w tb CB x C dx ca ba H H' ca c n (m+1000):=
 ⟨(L.same s).more (by omega),fun b o e _ _ _ _=>s _ _ e,.inl rfl⟩
def aTotal:List V→Su112.Call→Hp→Prop:=fun as cl _=>∃r,as=[nV r]∧cl=.total r
theorem scTotal:Aq ["self","room","before"] ["self","room"] (Ag sTotal):=⟨rfl,rfl,rfl,by decide +kernel,rfl,by decide +kernel,by decide +kernel⟩
theorem can_total {c:List Nat}{r:Nat}(h4:c.length≤4):canB c r=true↔¬(r<c.length-1∨Su112.TOTAL<r∨Su112.waysOf (c.length-1) r=[]):=by
 unfold canB Su112.TOTAL
 rw[decide_eq_true_iff]
 constructor
 ·
  rintro⟨a,b⟩ (z | z | z)
  ·
   exact b (no_ways (by omega) z)
  ·
   omega
  ·
   exact b z
 ·
  intro h
  refine⟨?_,fun z=>h (.inr (.inr z))⟩
  by_cases e:r≤8
  ·
   exact e
  ·
   exact absurd (.inr (.inl (by omega))) h
theorem ok_total {f C CB tb fN:Addr}{fd fdN:FuncData}(F:Fun K "total" "Line.total" sTotal f fd)(CE:AO K C)(hN:AT K C "can_be_put" fN)(GN:Ah P w K mg base CX0 4 fN fdN ["self","room"] (spCan C))(bN:An K fdN ["self","room"] [])
  (nO:Num mg "OUT_OF_RANGE" (-22)):Ah P w K mg base CX0 5 f fd ["self","room"] (spM P w tb CB C aTotal):=by
 obtain⟨u22,m22,r22⟩:=nO
 refine F.ok scTotal (fun vs H Q E h=>?_) (fun cdv A outer s H vs Q E hr h=>?_)
 ·
  obtain⟨x,dx,ca,ba,as,cl,a,m,rfl,⟨r,rfl,_⟩,_⟩:=h
  rfl
 ·
  obtain⟨x,dx,ca,ba,as,cl,a,m,rfl,⟨r,rfl,rfl⟩,L,G,hm,k⟩:=h
  obtain⟨h2,h4⟩:=okC_len G.ch
  refine⟨_,Ad (AN (pt_not (pt_val (Ay (pv 0) CE.cls hN GN hr bN .nil Ap (Aa (pv 1) Ac)))) (Af (Al (AD (Aa (Av rfl m22 r22) Ac)))) Ax)<|
   Ad (As (i:=2) scTotal.nd rfl (Or.inl rfl) (AE (pv 0) rfl))<|
   Ad (ps_fld (pv 0) (pv 1) rfl)<|
   Af (Al (AD (Aa (pv 2) Ac))),?_⟩
  refine⟨_,rfl,x,dx,_,rfl,L.ins,rfl,_,rfl,x,dx,ca,ba,a.chances,a.total,r,rfl,L.shows,by omega,h4,fun H1 s1=>⟨_,rfl,?_⟩⟩
  have hct:=can_total (c:=a.chances) (r:=r) h4
  cases hz:canB a.chances r with
  |
   false=>
   refine AY ⟨(by show 1≤sizeLine;decide),fun p hp=>?_⟩
   have hbad:r<a.gaps∨Su112.TOTAL<r∨Su112.waysOf a.gaps r=[]:=Classical.byContradiction fun q=>by
    rw[hct.mpr q] at hz;cases hz
   rw[does_total,if_pos hbad] at k
   exact k _ p ca (stp_same L (Ae.trans s1 (Ae.upd hp))) (NewL.of (s1.free hp)) Ab
  |
   true=>
   refine A3 ?_
   have hgood:¬(r<a.gaps∨Su112.TOTAL<r∨Su112.waysOf a.gaps r=[]):=hct.mp hz
   have L1:=L.same s1
   refine⟨_,rfl,x,C,dx,_,_,rfl,L1.ins,CE.cls,CE.nR,rfl,?_⟩
   refine⟨_,rfl,_,rfl,x,C,dx,_,rfl,L1.ins,CE.cls,CE.nR,(by show 3<1000;decide),?_⟩
   rw[put_room]
   have L2':=Ln.put (n':=r) L1 (ca':=ca) (c':=a.chances) L1.ch
   refine⟨_,rfl,(by show 1≤sizeLine;decide),fun p hp=>?_⟩
   have hpx:p≠x:=fun z=>by rw[z,Ab] at hp;cases hp
   have hp2:H1 p=none:=by rw[Ai hpx] at hp;exact hp
   rw[does_total,if_neg hgood] at k
   refine k _ p ca ⟨(L2'.same (Ae.upd hp)).more (by omega),fun b o eb hb _ _ _=>?_,.inl rfl⟩ (NewL.of (s1.free hp2)) Ab
   rw[Ai (Aj (s1 _ _ eb) hp2),Ai hb]
   exact s1 _ _ eb
end
end Wk
namespace Wk
open PySem PySem.Spec PyProof.Rows L2 Rb
theorem Ln.set {P:Program}{w:World}{tb CB x C dx ca ba:Addr}{H:Hp}{c c':List Nat}{n m:Nat}(L:Ln P w tb CB x C dx ca ba H c n m):Ln P w tb CB x C dx ca ba (upd H ca (.lst (c'.map nV))) c' n m:=by
 refine⟨?_,Ab,L.bo.frame fun b o e q _=>?_⟩
 ·
  rw[Ai (fun z=>by have h:=L.ins;rw[z,L.ch] at h;cases h)];exact L.ins
 ·
  rw[Ai (fun z=>by
   rw[z,L.ch] at e
   exact q _ (Option.some.inj e).symm)]
  exact e
theorem set_nV (c:List Nat)(i p:Nat):(c.map nV).set i (nV p)=(c.set i p).map nV:=by rw[List.map_set]
theorem does_chance (a:Su112.Abs)(i p:Nat):Su112.does a (.chance i p)=if a.isM i=false then (a,Su112.no (-2)) else if Su111.okP p=false then (a,Su112.no (-22)) else ({a with chances:=a.chances.set i p},Su112.num (a.chances.getD i 0) []):=rfl
theorem does_swap (a:Su112.Abs)(i j:Nat):Su112.does a (.swap i j)=if a.isM i=false∨a.isM j=false then (a,Su112.no (-2)) else ({a with chances:=(a.chances.set i (a.chances.getD j 0)).set j (a.chances.getD i 0)},Su112.num a.m []):=rfl
section
variable {P:Program}{w:World}{K:PySem.W.Frag}{mg:Str→Option Value}{base:Heap}
def aChance:List V→Su112.Call→Hp→Prop:=fun as cl _=>∃i p,as=[nV i,nV p]∧cl=.chance i p
theorem scChance:Aq ["self","machine","tenths","before"] ["self","machine","tenths"] (Ag sChance):=⟨rfl,rfl,rfl,by decide +kernel,rfl,by decide +kernel,by decide +kernel⟩
theorem ok_chance {f C CB tb fM fI:Addr}{fd fdM fdI:FuncData}(F:Fun K "chance" "Line.chance" sChance f fd)(CE:AO K C)(hM:AT K C "has_machine" fM)(GM:Ah P w K mg base CX0 1 fM fdM ["self","machine"] (spHasM C))(bM:An K fdM ["self","machine"] [])
  (GI:Ah P w K mg base CX0 1 fI fdI ["tenths"] spIsCh)(bI:An K fdI ["tenths"] [])(kI:PySem.W.keepIn K (.ref fI)=true)(mI:mg "is_chance"=some (.ref fI))(nO:Num mg "OUT_OF_RANGE" (-22))(nN:Num mg "NONE_SUCH" (-2)):
  Ah P w K mg base CX0 2 f fd ["self","machine","tenths"] (spM P w tb CB C aChance):=by
 obtain⟨u22,m22,r22⟩:=nO
 obtain⟨u2,m2,r2⟩:=nN
 refine F.ok scChance (fun vs H Q E h=>?_) (fun cdv A outer s H vs Q E hr h=>?_)
 ·
  obtain⟨x,dx,ca,ba,as,cl,a,m,rfl,⟨i,p,rfl,_⟩,_⟩:=h
  rfl
 ·
  obtain⟨x,dx,ca,ba,as,cl,a,m,rfl,⟨i,p,rfl,rfl⟩,L,G,hm,k⟩:=h
  refine⟨_,Ad (AN (pt_not (pt_val (Ay (pv 0) CE.cls hM GM hr bM .nil Ap (Aa (pv 1) Ac)))) (Af (Al (AD (Aa (Av rfl m2 r2) Ac)))) Ax)<|
   Ad (AN (pt_not (pt_val (Aw GI hr rfl mI kI bI .nil Ap (Aa (pv 2) Ac)))) (Af (Al (AD (Aa (Av rfl m22 r22) Ac)))) Ax)<|
   Ad (As (i:=3) scChance.nd rfl (Or.inl rfl) (AK AI (AE (pv 0) rfl) (pv 1) (fun _ _=>rfl)))<|
   Ad (ps_asg (pv 2) (pg_sub (AE (pv 0) rfl) (pv 1) set_list))<|
   Af (Al (AD (Aa (pv 3) Ac))),?_⟩
  refine⟨_,rfl,x,dx,_,rfl,L.ins,rfl,_,rfl,x,dx,ca,ba,a.chances,a.total,i,rfl,L.shows,_,rfl,?_⟩
  by_cases e1:i<a.chances.length
  ·
   have hI:a.isM i=true:=decide_eq_true e1
   rw[decide_eq_true e1]
   refine A3 ?_
   refine⟨_,rfl,p,rfl,_,rfl,?_⟩
   cases hz:Su111.okP p with
   |
    false=>
    refine AY ⟨(by show 1≤sizeLine;decide),fun q hq=>?_⟩
    rw[does_chance,hI,if_neg (by decide),if_pos hz] at k
    exact k _ q ca (stp_same L (Ae.upd hq)) (NewL.of hq) Ab
   |
    true=>
    refine A3 ?_
    rw[does_chance,hI,if_neg (by decide),if_neg (by rw[hz];decide)] at k
    refine⟨_,rfl,x,C,dx,_,_,rfl,L.ins,CE.cls,CE.nC,rfl,_,rfl,ca,_,_,_,rfl,rfl,SqL.of L.ch,at_nV e1,?_⟩
    refine⟨_,rfl,_,rfl,x,C,dx,_,_,rfl,L.ins,CE.cls,CE.nC,rfl,_,rfl,ca,_,_,i,rfl,rfl,L.ch,(by rw[List.length_map];exact ixN_nat e1),?_⟩
    rw[set_nV]
    have L1:=Ln.set (c':=a.chances.set i p) L
    refine⟨_,rfl,(by show 1≤sizeLine;decide),fun q hq=>?_⟩
    have hqc:q≠ca:=fun z=>by rw[z,Ab] at hq;cases hq
    have hq2:H q=none:=by rw[Ai hqc] at hq;exact hq
    refine k _ q ca ⟨(L1.same (Ae.upd hq)).more (by omega),fun b o eb _ hb _ _=>?_,.inl rfl⟩ (NewL.of hq2) Ab
    rw[Ai (Aj eb hq2),Ai hb];exact eb
  ·
   have hI:a.isM i=false:=decide_eq_false e1
   rw[decide_eq_false e1]
   refine AY ⟨(by show 1≤sizeLine;decide),fun q hq=>?_⟩
   rw[does_chance,if_pos hI] at k
   exact k _ q ca (stp_same L (Ae.upd hq)) (NewL.of hq) Ab
def aSwap:List V→Su112.Call→Hp→Prop:=fun as cl _=>∃i j,as=[nV i,nV j]∧cl=.swap i j
theorem scSwap:Aq ["self","machine","another","moved"] ["self","machine","another"] (Ag sSwap):=⟨rfl,rfl,rfl,by decide +kernel,rfl,by decide +kernel,by decide +kernel⟩
theorem ok_swap {f C CB tb fM:Addr}{fd fdM:FuncData}(F:Fun K "swap" "Line.swap" sSwap f fd)(CE:AO K C)(hM:AT K C "has_machine" fM)(GM:Ah P w K mg base CX0 1 fM fdM ["self","machine"] (spHasM C))(bM:An K fdM ["self","machine"] [])
  (mL:mg "len"=none)(nN:Num mg "NONE_SUCH" (-2)):Ah P w K mg base CX0 2 f fd ["self","machine","another"] (spM P w tb CB C aSwap):=by
 obtain⟨u2,m2,r2⟩:=nN
 refine F.ok scSwap (fun vs H Q E h=>?_) (fun cdv A outer s H vs Q E hr h=>?_)
 ·
  obtain⟨x,dx,ca,ba,as,cl,a,m,rfl,⟨i,j,rfl,_⟩,_⟩:=h
  rfl
 ·
  obtain⟨x,dx,ca,ba,as,cl,a,m,rfl,⟨i,j,rfl,rfl⟩,L,G,hm,k⟩:=h
  refine⟨_,Ad (AN (PW.pt (pw_or (pt_not (pt_val (Ay (pv 0) CE.cls hM GM hr bM .nil Ap (Aa (pv 1) Ac)))) (pw_or1 (pt_not (pt_val (Ay (pv 0) CE.cls hM GM hr bM .nil Ap (Aa (pv 2) Ac))))))) (Af (Al (AD (Aa (Av rfl m2 r2) Ac)))) Ax)<|
   Ad (As (i:=3) scSwap.nd rfl (Or.inl rfl) (AK AI (AE (pv 0) rfl) (pv 1) (fun _ _=>rfl)))<|
   Ad (ps_asg (AK AI (AE (pv 0) rfl) (pv 2) (fun _ _=>rfl)) (pg_sub (AE (pv 0) rfl) (pv 1) set_list))<|
   Ad (ps_asg (pv 3) (pg_sub (AE (pv 0) rfl) (pv 2) set_list))<|
   Af (Al (AD (Aa (Az (r:=rLenA K) At rfl mL PySem.boot_len (Aa (AE (pv 0) rfl) Ac)) Ac))),?_⟩
  refine⟨_,rfl,x,dx,_,rfl,L.ins,rfl,_,rfl,x,dx,ca,ba,a.chances,a.total,i,rfl,L.shows,_,rfl,?_⟩
  have no:∀(hz:a.isM i=false∨a.isM j=false),tLst (tCons (tC (.int (-2))) tNil) [] H Q:=fun hz=>by
   refine⟨(by show 1≤sizeLine;decide),fun q hq=>?_⟩
   rw[does_swap,if_pos hz] at k
   exact k _ q ca (stp_same L (Ae.upd hq)) (NewL.of hq) Ab
  by_cases e1:i<a.chances.length
  ·
   rw[decide_eq_true e1]
   refine A3 ?_
   refine⟨_,rfl,x,dx,_,rfl,L.ins,rfl,_,rfl,x,dx,ca,ba,a.chances,a.total,j,rfl,L.shows,_,rfl,?_⟩
   by_cases e2:j<a.chances.length
   ·
    rw[decide_eq_true e2]
    refine A3 ?_
    have hI:¬(a.isM i=false∨a.isM j=false):=by
     have h1:a.isM i=true:=decide_eq_true e1
     have h2:a.isM j=true:=decide_eq_true e2
     rw[h1,h2];decide
    rw[does_swap,if_neg hI] at k
    refine⟨_,rfl,x,C,dx,_,_,rfl,L.ins,CE.cls,CE.nC,rfl,_,rfl,ca,_,_,_,rfl,rfl,SqL.of L.ch,at_nV e1,?_⟩
    refine⟨_,rfl,x,C,dx,_,_,rfl,L.ins,CE.cls,CE.nC,rfl,_,rfl,ca,_,_,_,rfl,rfl,SqL.of L.ch,at_nV e2,?_⟩
    refine⟨_,rfl,x,C,dx,_,_,rfl,L.ins,CE.cls,CE.nC,rfl,_,rfl,ca,_,_,i,rfl,rfl,L.ch,(by rw[List.length_map];exact ixN_nat e1),?_⟩
    rw[set_nV]
    have L1:=Ln.set (c':=a.chances.set i (a.chances.getD j 0)) L
    refine⟨_,rfl,_,rfl,x,C,dx,_,_,rfl,L1.ins,CE.cls,CE.nC,rfl,_,rfl,ca,_,_,j,rfl,rfl,L1.ch,(by rw[List.length_map,List.length_set];exact ixN_nat e2),?_⟩
    rw[set_nV,upd_upd]
    have L2':=Ln.set (c':=(a.chances.set i (a.chances.getD j 0)).set j (a.chances.getD i 0)) L
    refine⟨_,rfl,x,C,dx,_,_,rfl,L2'.ins,CE.cls,CE.nC,rfl,ca,_,rfl,.inl (SqL.of L2'.ch),(by show 1≤sizeLine;decide),fun q hq=>?_⟩
    rw[List.length_map,List.length_set,List.length_set]
    have hqc:q≠ca:=fun z=>by rw[z,Ab] at hq;cases hq
    have hq2:H q=none:=by rw[Ai hqc] at hq;exact hq
    refine k _ q ca ⟨(L2'.same (Ae.upd hq)).more (by omega),fun b o eb _ hb _ _=>?_,.inl rfl⟩ (NewL.of hq2) Ab
    rw[Ai (Aj eb hq2),Ai hb];exact eb
   ·
    rw[decide_eq_false e2]
    refine AY ?_
    exact no (.inr (decide_eq_false e2))
  ·
   rw[decide_eq_false e1]
   refine AY (AY ?_)
   exact no (.inl (decide_eq_false e1))
end
end Wk
namespace Rb
theorem okC_set {c:List Nat}{i p:Nat}(h:Su112.okC c=true)(hp:Su111.okP p=true):Su112.okC (c.set i p)=true:=by
 unfold Su112.okC at h ⊢
 rw[Bool.and_eq_true,Bool.and_eq_true] at h ⊢
 rw[List.length_set]
 refine⟨h.1,h.2.1,?_⟩
 rw[List.all_eq_true] at h ⊢
 intro x hx
 rcases List.mem_or_eq_of_mem_set hx with z | z
 ·
  exact h.2.2 x z
 ·
  rw[z];exact hp
end Rb
namespace Wk
open PySem PySem.Spec PyProof.Rows L2 Rb
abbrev sBringsL:Stmt:=mth "brings"
abbrev sBestWL:Stmt:=mth "best_way"
abbrev sTold:Stmt:=mth "way_told"
abbrev sGained:Stmt:=mth "gained_by"
theorem NewL.keep {H H':Hp}(k:Ak H H'){p:Addr}(h:NewL H' p):NewL H p:=fun b xs e=>h b xs (k.lst e)
theorem ansL_way (g:Nat)(r:List Nat)(f:Su112.Fr):ansL (Su112.num g (Su112.nats r++Su112.two f))=[nV g]++r.map nV++[.int f.1,.int (f.2:Nat)]:=by
 unfold ansL Su112.num Su112.nats Su112.two Su112.nat
 simp only[List.map_cons,List.map_append,List.map_map,List.map_nil]
 rfl
def rListOf (K:PySem.W.Frag):List V→Hp→VK→Prop:=fun xs H Q=>∃p ys,xs=[.ref p]∧(SqL K H p ys∨SqT K H p ys)∧∀l,H l=none→Q (.ref l) (upd H l (.lst ys))
section
variable {P:Program}{w:World}{K:PySem.W.Frag}{mg:Str→Option Value}{base:Heap}
def spBrings (P:Program)(w:World)(K:PySem.W.Frag)(tb CB C:Addr):Sp:=fun vs H Q _=>∃(x wa dx ca ba:Addr) (c r:List Nat) (n m:Nat),vs=[.ref x,.ref wa]∧Ln P w tb CB x C dx ca ba H c n m∧WayAt K H wa r∧Fine c r∧m<10000000∧
 ∀(H':Hp) (p:Addr),Ak H H'→Ln P w tb CB x C dx ca ba H' c n (m+1)→FrAt H' p (Su112.rate c r)→Small (Su112.rate c r)→Q (.ref p) H'
theorem scBringsL:Aq ["self","way"] ["self","way"] (Ag sBringsL):=⟨rfl,rfl,rfl,by decide +kernel,rfl,by decide +kernel,by decide +kernel⟩
theorem ok_bringsL {f C CB tb fB:Addr}{fd fdB:FuncData}(F:Fun K "brings" "Line.brings" sBringsL f fd)(CE:AO K C)(CEB:ClsEnvB K CB)(hB:AT K CB "brings" fB)(GB:Ah P w K mg base CX0 6 fB fdB ["self","chances","way"] (spBrB P w K tb CB))(bB:An K fdB ["self","chances","way"] []):
  Ah P w K mg base CX0 7 f fd ["self","way"] (spBrings P w K tb CB C):=by
 refine F.ok scBringsL (fun vs H Q E h=>?_) (fun cdv A outer s H vs Q E hr h=>?_)
 ·
  obtain⟨x,wa,dx,ca,ba,c,r,n,m,rfl,_⟩:=h
  rfl
 ·
  obtain⟨x,wa,dx,ca,ba,c,r,n,m,rfl,L,hw,hF,hm,k⟩:=h
  obtain⟨bx,da,kvs,hins,_⟩:=L.bo.ex
  refine⟨_,Af (Al (Ay (AE (pv 0) rfl) CEB.cls hB GB hr bB .nil Ap (Aa (AE (pv 0) rfl) (Aa (pv 1) Ac)))),?_⟩
  refine⟨_,rfl,x,C,dx,_,_,rfl,L.ins,CE.cls,CE.nB,rfl,ba,bx,_,rfl,hins,rfl,_,rfl,x,C,dx,_,_,rfl,L.ins,CE.cls,CE.nC,rfl,_,rfl,ba,ca,wa,c,r,m,rfl,L.bo,.inl (SqL.of L.ch),hw,hF,hm,fun H' p k1 B fr sm=>?_⟩
  exact k H' p k1 (L.keep k1 B) fr sm
def spBestWL (P:Program)(w:World)(tb CB C:Addr):Sp:=fun vs H Q _=>∃(x dx ca ba:Addr) (a:Su112.Abs) (m:Nat),vs=[.ref x]∧Ln P w tb CB x C dx ca ba H a.chances a.total m∧Good a∧m<9800000∧
 ∀(H':Hp) (p:Addr),Ak H H'→Ln P w tb CB x C dx ca ba H' a.chances a.total (m+100)→AR H' p a.best→Q (.ref p) H'
theorem scBestWL:Aq ["self"] ["self"] (Ag sBestWL):=⟨rfl,rfl,rfl,by decide +kernel,rfl,by decide +kernel,by decide +kernel⟩
theorem ok_bestWL {f C CB tb fB:Addr}{fd fdB:FuncData}(F:Fun K "best_way" "Line.best_way" sBestWL f fd)(CE:AO K C)(CEB:ClsEnvB K CB)(hB:AT K CB "best_way" fB)(GB:Ah P w K mg base CX0 7 fB fdB ["self","chances","room"] (spBW P w tb CB Su112.most))(bB:An K fdB ["self","chances","room"] []):
  Ah P w K mg base CX0 8 f fd ["self"] (spBestWL P w tb CB C):=by
 refine F.ok scBestWL (fun vs H Q E h=>?_) (fun cdv A outer s H vs Q E hr h=>?_)
 ·
  obtain⟨x,dx,ca,ba,a,m,rfl,_⟩:=h
  rfl
 ·
  obtain⟨x,dx,ca,ba,a,m,rfl,L,G,hm,k⟩:=h
  obtain⟨bx,da,kvs,hins,_⟩:=L.bo.ex
  refine⟨_,Af (Al (Ay (AE (pv 0) rfl) CEB.cls hB GB hr bB .nil Ap (Aa (AE (pv 0) rfl) (Aa (AE (pv 0) rfl) Ac)))),?_⟩
  refine⟨_,rfl,x,C,dx,_,_,rfl,L.ins,CE.cls,CE.nB,rfl,ba,bx,_,rfl,hins,rfl,_,rfl,x,C,dx,_,_,rfl,L.ins,CE.cls,CE.nC,rfl,_,rfl,x,C,dx,_,_,rfl,L.ins,CE.cls,CE.nR,rfl,ba,ca,a.chances,a.total,m,rfl,L.bo,L.ch,G.ch,G.top,G.some_,by omega,fun H' p k1 B st=>?_⟩
  exact k H' p k1 (L.keep k1 B) st
theorem best_mem {a:Su112.Abs}(G:Good a):a.best∈a.all:=most_mem a.chances a.all G.some_
theorem best_fine {a:Su112.Abs}(G:Good a):Fine a.chances a.best:=fine_of G.ch G.top (best_mem G)
def spTold (P:Program)(w:World)(K:PySem.W.Frag)(tb CB C:Addr):Sp:=fun vs H Q _=>∃(x wa da dx ca ba:Addr) (c' c r:List Nat) (n m:Nat),vs=[.ref x,.ref da,.ref wa]∧Ln P w tb CB x C dx ca ba H c' n m∧H da=some (.lst (c.map nV))∧WayAt K H wa r∧Fine c r∧m<9900000∧
 ∀(H':Hp) (p:Addr),Ak H H'→Ln P w tb CB x C dx ca ba H' c' n (m+1)→NewL H p→H' p=some (.lst (ansL (Su112.num r.length (Su112.nats r++Su112.two (Su112.rate c r)))))→Q (.ref p) H'
theorem scTold:Aq ["self","chances","way"] ["self","chances","way"] (Ag sTold):=⟨rfl,rfl,rfl,by decide +kernel,rfl,by decide +kernel,by decide +kernel⟩
theorem ok_told {f C CB tb fB:Addr}{fd fdB:FuncData}(F:Fun K "way_told" "Line.way_told" sTold f fd)(CE:AO K C)(CEB:ClsEnvB K CB)
  (hB:AT K CB "brings" fB)(GB:Ah P w K mg base CX0 6 fB fdB ["self","chances","way"] (spBrB P w K tb CB))(bB:An K fdB ["self","chances","way"] [])(mL:mg "len"=none)(mLi:mg "list"=none):Ah P w K mg base CX0 7 f fd ["self","chances","way"] (spTold P w K tb CB C):=by
 refine F.ok scTold (fun vs H Q E h=>?_) (fun cdv A outer s H vs Q E hr h=>?_)
 ·
  obtain⟨x,wa,da,dx,ca,ba,c',c,r,n,m,rfl,_⟩:=h
  rfl
 ·
  obtain⟨x,wa,da,dx,ca,ba,c',c,r,n,m,rfl,L,hd,hw,hF,hm,k⟩:=h
  have hlc:=hF.lens
  have hfew:=hF.few
  refine⟨_,Af (Al (AH op_cat (AH op_cat (AD (Aa (Az (r:=rLenA K) At rfl mL PySem.boot_len (Aa (pv 2) Ac)) Ac)) (A2 (r:=rListOf K) AX rfl mLi (by decide +kernel) (Aa (pv 2) Ac)))
   (A2 (r:=rListOf K) AX rfl mLi (by decide +kernel) (Aa (Ay (AE (pv 0) rfl) CEB.cls hB GB hr bB .nil Ap (Aa (pv 1) (Aa (pv 2) Ac))) Ac)))),?_⟩
  refine⟨_,rfl,wa,_,rfl,hw.sq,(by show 1≤sizeLine;decide),fun l1 hl1=>?_⟩
  rw[List.length_map]
  have s1:Ae H (upd H l1 (.lst [nV r.length])):=Ae.upd hl1
  refine⟨_,rfl,wa,r.map nV,rfl,(hw.same s1).sq,fun l2 hl2=>?_⟩
  have s2:=Ae.upd (o:=.lst (r.map nV)) hl2
  refine⟨l1,l2,_,_,rfl,rfl,s2 _ _ Ab,Ab,(by rw[List.length_map];exact Nat.le_of_lt (AC (by show 1+r.length≤1000;omega))),fun l3 hl3=>?_⟩
  have s3:=Ae.upd (o:=.lst ([nV r.length]++r.map nV)) hl3
  have sA:=Ae.trans s1 (Ae.trans s2 s3)
  have L3:=L.same sA
  obtain⟨bx,db,kvs,hins,_⟩:=L3.bo.ex
  refine⟨_,rfl,x,C,dx,_,_,rfl,L3.ins,CE.cls,CE.nB,rfl,ba,bx,_,rfl,hins,rfl,_,rfl,_,rfl,ba,da,wa,c,r,m,rfl,L3.bo,.inl (SqL.of (sA _ _ hd)),hw.same sA,hF,by omega,fun H4 p4 k4 B4 fr sm=>?_⟩
  have L4:=L3.keep k4 B4
  refine⟨p4,_,rfl,.inr (SqT.of fr),fun l5 hl5=>?_⟩
  have s5:=Ae.upd (o:=.lst [.int (Su112.rate c r).1,.int ((Su112.rate c r).2:Nat)]) hl5
  have at3:H4 l3=some (.lst ([nV r.length]++r.map nV)):=k4.lst Ab
  refine⟨l3,l5,_,_,rfl,rfl,s5 _ _ at3,Ab,(by
   rw[List.length_append,List.length_map];exact Nat.le_of_lt (AC (by show 1+r.length+2≤1000;omega))),fun l6 hl6=>?_⟩
  have s6:=Ae.upd (o:=.lst ([nV r.length]++r.map nV++[.int (Su112.rate c r).1,.int ((Su112.rate c r).2:Nat)])) hl6
  refine k _ l6 (Ak.trans (Ak.of sA) (Ak.trans k4 (Ak.of (Ae.trans s5 s6)))) (L4.same (Ae.trans s5 s6)) ((NewL.of hl6).keep (Ak.trans (Ak.of sA) (Ak.trans k4 (Ak.of s5)))) ?_
  rw[Ab,ansL_way]
def spGained (P:Program)(w:World)(tb CB C:Addr):Sp:=fun vs H Q _=>∃(x dx ca ba:Addr) (a:Su112.Abs) (i m:Nat),vs=[.ref x,nV i]∧Ln P w tb CB x C dx ca ba H a.chances a.total m∧Good a∧i<a.chances.length∧a.chances.getD i 0<9∧m<9700000∧
 ∀(H':Hp) (p:Addr),Ak H H'→Ln P w tb CB x C dx ca ba H' a.chances a.total (m+102)→FrAt H' p (diffF (a.better a.best i) a.out)→Wide (diffF (a.better a.best i) a.out)→0<(a.better a.best i).2→Q (.ref p) H'
theorem scGained:Aq ["self","machine","way","raised"] ["self","machine"] (Ag sGained):=⟨rfl,rfl,rfl,by decide +kernel,rfl,by decide +kernel,by decide +kernel⟩
theorem better_fine {a:Su112.Abs}{i:Nat}(G:Good a)(hi:i<a.chances.length)(h9:a.chances.getD i 0<9):Fine (a.chances.set i (a.chances.getD i 0+1)) a.best:=by
 have h:=best_mem G
 have hp:Su111.okP (a.chances.getD i 0+1)=true:=by
  unfold Su111.okP
  rw[decide_eq_true (by omega),decide_eq_true (by omega)];rfl
 refine fine_of (okC_set G.ch hp) G.top ?_
 rw[List.length_set]
 exact h
theorem ok_gained {f C CB tb fB fW fL fD:Addr}{fd fdB fdW fdL fdD:FuncData}(F:Fun K "gained_by" "Line.gained_by" sGained f fd)(CE:AO K C)(CEB:ClsEnvB K CB)
  (hB:AT K CB "brings" fB)(GB:Ah P w K mg base CX0 6 fB fdB ["self","chances","way"] (spBrB P w K tb CB))(bB:An K fdB ["self","chances","way"] [])
  (hW:AT K C "best_way" fW)(GW:Ah P w K mg base CX0 8 fW fdW ["self"] (spBestWL P w tb CB C))(bW:An K fdW ["self"] [])
  (hL:AT K C "brings" fL)(GL:Ah P w K mg base CX0 7 fL fdL ["self","way"] (spBrings P w K tb CB C))(bL:An K fdL ["self","way"] [])
  (GD:Ah P w K mg base CX0 3 fD fdD ["one","other"] (spDiff K))(bD:An K fdD ["one","other"] [])(kD:PySem.W.keepIn K (.ref fD)=true)(mD:mg "difference"=some (.ref fD))(mLi:mg "list"=none):
  Ah P w K mg base CX0 9 f fd ["self","machine"] (spGained P w tb CB C):=by
 refine F.ok scGained (fun vs H Q E h=>?_) (fun cdv A outer s H vs Q E hr h=>?_)
 ·
  obtain⟨x,dx,ca,ba,a,i,m,rfl,_⟩:=h
  rfl
 ·
  obtain⟨x,dx,ca,ba,a,i,m,rfl,L,G,hi,h9,hm,k⟩:=h
  have hr3:AM 3 _:=hr.mono (by decide)
  have hr6:AM 6 _:=hr.mono (by decide)
  have hr7:AM 7 _:=hr.mono (by decide)
  refine⟨_,Ad (As (i:=2) scGained.nd rfl (Or.inl rfl) (AQ (pv 0) CE.cls hW GW hr bW .nil Ap))<|
   Ad (As (i:=3) scGained.nd rfl (Or.inl rfl) (A2 (r:=rListOf K) AX rfl mLi (by decide +kernel) (Aa (AE (pv 0) rfl) Ac)))<|
   Ad (ps_asg (AH op_add (AK AI (pv 3) (pv 1) (fun _ _=>rfl)) Ao) (pg_sub (pv 3) (pv 1) set_list))<|
   Af (Al (Aw GD hr3 rfl mD kD bD .nil Ap (Aa (Ay (AE (pv 0) rfl) CEB.cls hB GB hr6 bB .nil Ap (Aa (pv 3) (Aa (pv 2) Ac))) (Aa (Ay (pv 0) CE.cls hL GL hr7 bL .nil Ap (Aa (pv 2) Ac)) Ac)))),?_⟩
  refine⟨_,rfl,x,dx,_,rfl,L.ins,rfl,x,dx,ca,ba,a,m,rfl,L,G,by omega,fun H1 wa k1 L1 st1=>?_⟩
  refine⟨_,rfl,x,C,dx,_,_,rfl,L1.ins,CE.cls,CE.nC,rfl,ca,_,rfl,.inl (SqL.of L1.ch),fun ra hra=>?_⟩
  refine⟨_,rfl,_,rfl,ra,_,_,_,rfl,rfl,SqL.of Ab,at_nV hi,_,_,rfl,rfl,_,rfl,_,rfl,ra,_,_,i,rfl,rfl,Ab,(by rw[List.length_map];exact ixN_nat hi),?_⟩
  rw[upd_upd]
  have e:(a.chances.map nV).set i (V.int (((a.chances.getD i 0:Nat):Int)+1))=(a.chances.set i (a.chances.getD i 0+1)).map nV:=set_nV a.chances i (a.chances.getD i 0+1)
  have e0:∀z:V,(fun (i j:Int)=>V.int (i+j)) ((a.chances.getD i 0:Nat):Int) 1=V.int (((a.chances.getD i 0:Nat):Int)+1):=fun _=>rfl
  rw[e0 .non,e]
  have s2:=Ae.upd (o:=.lst ((a.chances.set i (a.chances.getD i 0+1)).map nV)) hra
  have L2':=L1.same s2
  have st2:=s2 _ _ st1
  have kz:=Ak.trans k1 (Ak.of s2)
  obtain⟨bx,db,kvs,hins,_⟩:=L2'.bo.ex
  refine⟨_,rfl,x,C,dx,_,_,rfl,L2'.ins,CE.cls,CE.nB,rfl,ba,bx,_,rfl,hins,rfl,_,rfl,_,rfl,ba,ra,wa,a.chances.set i (a.chances.getD i 0+1),a.best,m+100,rfl,L2'.bo,.inl (SqL.of Ab),.inr st2,better_fine G hi h9,by omega,fun H3 p1 k3 B3 fr1 sm1=>?_⟩
  have L3:=L2'.keep k3 B3
  refine⟨_,rfl,x,dx,_,rfl,L3.ins,rfl,_,rfl,x,wa,dx,ca,ba,a.chances,a.best,a.total,m+100+1,rfl,L3,.inr (k3.tup st2),best_fine G,by omega,fun H4 p2 k4 L4 fr2 sm2=>?_⟩
  have pf:=(fine_canon (better_fine G hi h9)).1
  have pg:=(fine_canon (best_fine G)).1
  refine⟨p1,p2,a.better a.best i,a.out,rfl,SqT.of (k4.fr fr1),SqT.of fr2,sm1,sm2,pf,pg,fun p hp=>?_⟩
  exact k _ p (Ak.trans kz (Ak.trans k3 (Ak.trans k4 (Ak.of (Ae.upd hp))))) ((L4.same (Ae.upd hp)).more (by omega)) Ab (diff_wide sm1 sm2 pf pg) pf
end
end Wk
namespace Wk
open PySem PySem.Spec PyProof.Rows L2 Rb
abbrev sBest:Stmt:=mth "best"
abbrev sWorst:Stmt:=mth "worst"
abbrev sOf:Stmt:=mth "of"
abbrev sState:Stmt:=mth "state"
abbrev sBound:Stmt:=mth "bound"
abbrev sGain:Stmt:=mth "gain"
abbrev sWorth:Stmt:=mth "worth"
abbrev sOrder:Stmt:=mth "order"
theorem does_of (a:Su112.Abs)(l:List Nat):Su112.does a (.of l)=if a.okW l=false then (a,Su112.no (-22)) else (a,Su112.num l.sum (Su112.two (Su112.rate a.chances l))):=rfl
theorem mem_len {a:Su112.Abs}{r:List Nat}(G:Good a)(h:r∈a.all):r.length=a.gaps:=by
 have F:=fine_of G.ch G.top h
 have:=F.lens
 show r.length=a.chances.length-1
 omega
section
variable {P:Program}{w:World}{K:PySem.W.Frag}{mg:Str→Option Value}{base:Heap}
theorem stp_keep {tb CB x C dx ca ba:Addr}{H H':Hp}{c:List Nat}{n m m':Nat}(k:Ak H H')(L:Ln P w tb CB x C dx ca ba H' c n m')(h:m'≤m+1000):Stp P w tb CB x C dx ca ba H H' ca c n (m+1000):=
 ⟨L.more h,fun b o e _ _ h1 h2=>k b o e h1 h2,.inl rfl⟩
def aBest:List V→Su112.Call→Hp→Prop:=fun as cl _=>as=[]∧cl=.best
theorem scBest:Aq ["self"] ["self"] (Ag sBest):=⟨rfl,rfl,rfl,by decide +kernel,rfl,by decide +kernel,by decide +kernel⟩
theorem ok_best {f C CB tb fT fB:Addr}{fd fdT fdB:FuncData}(F:Fun K "best" "Line.best" sBest f fd)(CE:AO K C)(hT:AT K C "way_told" fT)(GT:Ah P w K mg base CX0 7 fT fdT ["self","chances","way"] (spTold P w K tb CB C))(bT:An K fdT ["self","chances","way"] [])
  (hB:AT K C "best_way" fB)(GB:Ah P w K mg base CX0 8 fB fdB ["self"] (spBestWL P w tb CB C))(bB:An K fdB ["self"] []):Ah P w K mg base CX0 9 f fd ["self"] (spM P w tb CB C aBest):=by
 refine F.ok scBest (fun vs H Q E h=>?_) (fun cdv A outer s H vs Q E hr h=>?_)
 ·
  obtain⟨x,dx,ca,ba,as,cl,a,m,rfl,⟨rfl,_⟩,_⟩:=h
  rfl
 ·
  obtain⟨x,dx,ca,ba,as,cl,a,m,rfl,⟨rfl,rfl⟩,L,G,hm,k⟩:=h
  have hr7:AM 7 _:=hr.mono (by decide)
  refine⟨_,Af (Al (Ay (pv 0) CE.cls hT GT hr7 bT .nil Ap (Aa (AE (pv 0) rfl) (Aa (AQ (pv 0) CE.cls hB GB hr bB .nil Ap) Ac)))),?_⟩
  refine⟨_,rfl,x,dx,_,rfl,L.ins,rfl,_,rfl,x,C,dx,_,_,rfl,L.ins,CE.cls,CE.nC,rfl,_,rfl,x,dx,_,rfl,L.ins,rfl,x,dx,ca,ba,a,m,rfl,L,G,by omega,fun H1 p k1 L1 st=>?_⟩
  refine⟨x,p,ca,dx,ca,ba,a.chances,a.chances,_,a.total,m+100,rfl,L1,L1.ch,.inr st,best_fine G,by omega,fun H2 q k2 L2' nl at2=>?_⟩
  refine k H2 q ca (stp_keep (Ak.trans k1 k2) L2' (by omega)) (nl.keep k1) ?_
  rw[at2,mem_len G (best_mem G)]
  rfl
def aWorst:List V→Su112.Call→Hp→Prop:=fun as cl _=>as=[]∧cl=.worst
theorem scWorst:Aq ["self"] ["self"] (Ag sWorst):=⟨rfl,rfl,rfl,by decide +kernel,rfl,by decide +kernel,by decide +kernel⟩
theorem ok_worst {f C CB tb fT fB:Addr}{fd fdT fdB:FuncData}(F:Fun K "worst" "Line.worst" sWorst f fd)(CE:AO K C)(CEB:ClsEnvB K CB)(hT:AT K C "way_told" fT)(GT:Ah P w K mg base CX0 7 fT fdT ["self","chances","way"] (spTold P w K tb CB C))(bT:An K fdT ["self","chances","way"] [])
  (hB:AT K CB "worst_way" fB)(GB:Ah P w K mg base CX0 7 fB fdB ["self","chances","room"] (spBW P w tb CB Su112.least))(bB:An K fdB ["self","chances","room"] []):Ah P w K mg base CX0 9 f fd ["self"] (spM P w tb CB C aWorst):=by
 refine F.ok scWorst (fun vs H Q E h=>?_) (fun cdv A outer s H vs Q E hr h=>?_)
 ·
  obtain⟨x,dx,ca,ba,as,cl,a,m,rfl,⟨rfl,_⟩,_⟩:=h
  rfl
 ·
  obtain⟨x,dx,ca,ba,as,cl,a,m,rfl,⟨rfl,rfl⟩,L,G,hm,k⟩:=h
  have hr7:AM 7 _:=hr.mono (by decide)
  obtain⟨bx,db,kvs,hins,_⟩:=L.bo.ex
  refine⟨_,Af (Al (Ay (pv 0) CE.cls hT GT hr7 bT .nil Ap (Aa (AE (pv 0) rfl) (Aa (Ay (AE (pv 0) rfl) CEB.cls hB GB hr7 bB .nil Ap (Aa (AE (pv 0) rfl) (Aa (AE (pv 0) rfl) Ac))) Ac)))),?_⟩
  refine⟨_,rfl,x,dx,_,rfl,L.ins,rfl,_,rfl,x,C,dx,_,_,rfl,L.ins,CE.cls,CE.nC,rfl,_,rfl,x,C,dx,_,_,rfl,L.ins,CE.cls,CE.nB,rfl,ba,bx,_,rfl,hins,rfl,_,rfl,x,C,dx,_,_,rfl,L.ins,CE.cls,CE.nC,rfl,_,rfl,x,C,dx,_,_,rfl,L.ins,CE.cls,CE.nR,rfl,
   ba,ca,a.chances,a.total,m,rfl,L.bo,L.ch,G.ch,G.top,G.some_,by omega,fun H1 p k1 B1 st=>?_⟩
  have L1:=L.keep k1 B1
  have hmem:Su112.least a.chances a.all∈a.all:=least_mem a.chances a.all G.some_
  refine⟨x,p,ca,dx,ca,ba,a.chances,a.chances,_,a.total,m+100,rfl,L1,L1.ch,.inr st,fine_of G.ch G.top hmem,by omega,fun H2 q k2 L2' nl at2=>?_⟩
  refine k H2 q ca (stp_keep (Ak.trans k1 k2) L2' (by omega)) (nl.keep k1) ?_
  rw[at2]
  have e:(Su112.least a.chances (Su112.waysOf (a.chances.length-1) a.total)).length=a.gaps:=mem_len G hmem
  rw[e]
  rfl
def aOf (K:PySem.W.Frag):List V→Su112.Call→Hp→Prop:=fun as cl H=>∃(wa:Addr) (l:List Nat),as=[.ref wa]∧SqL K H wa (l.map nV)∧l.length≤1000∧cl=.of l
theorem scOf:Aq ["self","way"] ["self","way"] (Ag sOf):=⟨rfl,rfl,rfl,by decide +kernel,rfl,by decide +kernel,by decide +kernel⟩
theorem ok_of {f C CB tb fR fB fI:Addr}{fd fdR fdB fdI:FuncData}(F:Fun K "of" "Line.of" sOf f fd)(CE:AO K C)(hR:AT K C "rooms" fR)(GR:Ah P w K mg base CX0 1 fR fdR ["self"] (spRooms C))(bR:An K fdR ["self"] [])
  (hB:AT K C "brings" fB)(GB:Ah P w K mg base CX0 7 fB fdB ["self","way"] (spBrings P w K tb CB C))(bB:An K fdB ["self","way"] [])(GI:Ah P w K mg base CX0 2 fI fdI ["way","rooms"] (spIsWay K))(bI:An K fdI ["way","rooms"] [])(kI:PySem.W.keepIn K (.ref fI)=true)
  (mI:mg "is_way"=some (.ref fI))(mLi:mg "list"=none)(mS:mg "sum"=none)(nO:Num mg "OUT_OF_RANGE" (-22)):Ah P w K mg base CX0 8 f fd ["self","way"] (spM P w tb CB C (aOf K)):=by
 obtain⟨u22,m22,r22⟩:=nO
 refine F.ok scOf (fun vs H Q E h=>?_) (fun cdv A outer s H vs Q E hr h=>?_)
 ·
  obtain⟨x,dx,ca,ba,as,cl,a,m,rfl,⟨wa,l,rfl,_⟩,_⟩:=h
  rfl
 ·
  obtain⟨x,dx,ca,ba,as,cl,a,m,rfl,⟨wa,l,rfl,hl,h1000,rfl⟩,L,G,hm,k⟩:=h
  have hr1:AM 1 _:=hr.mono (by decide)
  have hr2:AM 2 _:=hr.mono (by decide)
  obtain⟨h2,h4⟩:=okC_len G.ch
  refine⟨_,Ad (AN (pt_not (pt_val (Aw GI hr2 rfl mI kI bI .nil Ap (Aa (pv 1) (Aa (AQ (pv 0) CE.cls hR GR hr1 bR .nil Ap) Ac))))) (Af (Al (AD (Aa (Av rfl m22 r22) Ac)))) Ax)<|
   Af (Al (AH op_cat (AD (Aa (Az (r:=rSum K) (cr_sum rfl) rfl mS (by decide +kernel) (Aa (pv 1) Ac)) Ac)) (A2 (r:=rListOf K) AX rfl mLi (by decide +kernel) (Aa (Ay (pv 0) CE.cls hB GB hr bB .nil Ap (Aa (pv 1) Ac)) Ac)))),?_⟩
  refine⟨_,rfl,_,rfl,x,dx,_,rfl,L.ins,rfl,x,dx,ca,ba,a.chances,a.total,rfl,L.shows,by omega,wa,l,a.chances.length-1,rfl,.inl hl,_,rfl,?_⟩
  have ew:okWay (a.chances.length-1) l=a.okW l:=rfl
  rw[ew]
  cases hz:a.okW l with
  |
   false=>
   refine AY ⟨(by show 1≤sizeLine;decide),fun q hq=>?_⟩
   rw[does_of,if_pos hz] at k
   exact k _ q ca (stp_same L (Ae.upd hq)) (NewL.of hq) Ab
  |
   true=>
   refine A3 ?_
   rw[does_of,if_neg (by rw[hz];decide)] at k
   have hF:=fine_okW G.ch hz
   refine⟨_,rfl,wa,l.map fun n=>((n:Nat):Int),rfl,by rw[ints_nV];exact hl,(by show 1≤sizeLine;decide),fun l1 hl1=>?_⟩
   have s1:=Ae.upd (o:=.lst [V.int (l.map fun n=>((n:Nat):Int)).sum]) hl1
   have L1:=L.same s1
   refine⟨_,rfl,x,dx,_,rfl,L1.ins,rfl,_,rfl,x,wa,dx,ca,ba,a.chances,l,a.total,m,rfl,L1,.inl (Ae.seq s1 hl),hF,by omega,fun H4 p4 k4 L4 fr sm=>?_⟩
   refine⟨p4,_,rfl,.inr (SqT.of fr),fun l5 hl5=>?_⟩
   have s5:=Ae.upd (o:=.lst [.int (Su112.rate a.chances l).1,.int ((Su112.rate a.chances l).2:Nat)]) hl5
   have at1:H4 l1=some (.lst [V.int (l.map fun n=>((n:Nat):Int)).sum]):=k4.lst Ab
   refine⟨l1,l5,_,_,rfl,rfl,s5 _ _ at1,Ab,(by show 1+2≤sizeLine;decide),fun l6 hl6=>?_⟩
   have s6:=Ae.upd (o:=.lst ([V.int (l.map fun n=>((n:Nat):Int)).sum]++[.int (Su112.rate a.chances l).1,.int ((Su112.rate a.chances l).2:Nat)])) hl6
   have kA:=Ak.trans (Ak.of s1) (Ak.trans k4 (Ak.of s5))
   refine k _ l6 ca (stp_keep (Ak.trans kA (Ak.of s6)) (L4.same (Ae.trans s5 s6)) (by omega)) ((NewL.of hl6).keep kA) ?_
   rw[Ab,sum_castI]
   rfl
def aState:List V→Su112.Call→Hp→Prop:=fun as cl _=>as=[]∧cl=.state
theorem scState:Aq ["self"] ["self"] (Ag sState):=⟨rfl,rfl,rfl,by decide +kernel,rfl,by decide +kernel,by decide +kernel⟩
theorem ok_state {f C CB tb:Addr}{fd:FuncData}(F:Fun K "state" "Line.state" sState f fd)(CE:AO K C)(mLi:mg "list"=none):Ah P w K mg base CX0 1 f fd ["self"] (spM P w tb CB C aState):=by
 refine F.ok scState (fun vs H Q E h=>?_) (fun cdv A outer s H vs Q E hr h=>?_)
 ·
  obtain⟨x,dx,ca,ba,as,cl,a,m,rfl,⟨rfl,_⟩,_⟩:=h
  rfl
 ·
  obtain⟨x,dx,ca,ba,as,cl,a,m,rfl,⟨rfl,rfl⟩,L,G,hm,k⟩:=h
  obtain⟨h2,h4⟩:=okC_len G.ch
  refine⟨_,Af (Al (AH op_cat (AD (Aa (AE (pv 0) rfl) Ac)) (A2 (r:=rListOf K) AX rfl mLi (by decide +kernel) (Aa (AE (pv 0) rfl) Ac)))),?_⟩
  refine⟨_,rfl,x,C,dx,_,_,rfl,L.ins,CE.cls,CE.nR,rfl,(by show 1≤sizeLine;decide),fun l1 hl1=>?_⟩
  have s1:=Ae.upd (o:=.lst [nV a.total]) hl1
  have L1:=L.same s1
  refine⟨_,rfl,x,C,dx,_,_,rfl,L1.ins,CE.cls,CE.nC,rfl,ca,_,rfl,.inl (SqL.of L1.ch),fun l2 hl2=>?_⟩
  have s2:=Ae.upd (o:=.lst (a.chances.map nV)) hl2
  refine⟨l1,l2,_,_,rfl,rfl,s2 _ _ Ab,Ab,(by rw[List.length_map];exact Nat.le_of_lt (AC (by show 1+a.chances.length≤1000;omega))),fun l3 hl3=>?_⟩
  have s3:=Ae.upd (o:=.lst ([nV a.total]++a.chances.map nV)) hl3
  refine k _ l3 ca (stp_same L (Ae.trans s1 (Ae.trans s2 s3))) (NewL.of (s1.free (s2.free hl3))) ?_
  rw[Ab]
  show some (HO.lst ([nV a.total]++a.chances.map nV))=some (HO.lst (ansL (Su112.num a.total (Su112.nats a.chances))))
  have e:ansL (Su112.num a.total (Su112.nats a.chances))=[nV a.total]++a.chances.map nV:=by
   unfold ansL Su112.num Su112.nats Su112.nat
   rw[List.map_cons,List.map_map];rfl
  rw[e]
end
end Wk
namespace Rb
theorem foldl_min (l:List Nat):∀b:Nat,(l.foldl min b≤b)∧(∀x∈l,l.foldl min b≤x)∧(l.foldl min b=b∨l.foldl min b∈l):=by
 induction l with
 | nil=>intro b;exact⟨Nat.le_refl _,fun x hx=>by simp at hx,.inl rfl⟩
 |
  cons y l ih=>
  intro b
  rw[List.foldl_cons]
  obtain⟨h1,h2,h3⟩:=ih (min b y)
  refine⟨Nat.le_trans h1 (Nat.min_le_left _ _),fun x hx=>?_,?_⟩
  ·
   rcases List.mem_cons.mp hx with z | z
   ·
    rw[z];exact Nat.le_trans h1 (Nat.min_le_right _ _)
   ·
    exact h2 x z
  ·
   rcases h3 with z | z
   ·
    rcases Nat.le_total b y with q | q
    ·
     left;rw[z];exact Nat.min_eq_left q
    ·
     right;rw[z,Nat.min_eq_right q];exact List.mem_cons_self
   ·
    right;exact List.mem_cons_of_mem _ z
theorem okC_all {c:List Nat}(h:Su112.okC c=true):∀x∈c,1≤x∧x≤9:=by
 unfold Su112.okC at h
 rw[Bool.and_eq_true,Bool.and_eq_true] at h
 intro x hx
 have:=List.all_eq_true.mp h.2.2 x hx
 simp[Su111.okP] at this
 omega
theorem min_is {c:List Nat}(h:Su112.okC c=true)(m:Int)(h1:m∈c.map fun n=>((n:Nat):Int))(h2:∀y,y∈(c.map fun n=>((n:Nat):Int))→m≤y):m=((c.foldl min 10:Nat):Int):=by
 obtain⟨x,hx,rfl⟩:=List.mem_map.mp h1
 obtain⟨f1,f2,f3⟩:=foldl_min c 10
 have a1:=f2 x hx
 have h9:=(okC_all h x hx).2
 have hm:c.foldl min 10∈c:=by
  rcases f3 with z | z
  ·
   omega
  ·
   exact z
 have a2:=h2 _ (List.mem_map.mpr ⟨_,hm,rfl⟩)
 omega
end Rb
namespace Wk
open PySem PySem.Spec PyProof.Rows L2 Rb
theorem does_gain (a:Su112.Abs)(i:Nat):Su112.does a (.gain i)=if a.isM i=false then (a,Su112.no (-2)) else if a.chances.getD i 0=9 then (a,Su112.no (-17)) else (a,Su112.num 0 (Su112.two (diffF (a.better a.best i) a.out))):=rfl
theorem does_worth (a:Su112.Abs):Su112.does a .worth=if Su112.TOTAL≤a.total∨Su112.waysOf a.gaps (a.total+1)=[] then (a,Su112.no (-28)) else (a,Su112.num 0 (Su112.two (diffF (Su112.rate a.chances (Su112.most a.chances (Su112.waysOf a.gaps (a.total+1)))) a.out))):=rfl
theorem does_order (a:Su112.Abs)(l:List Nat):Su112.does a (.order l)=if a.okW l=false then (a,Su112.no (-22)) else (a,Su112.num a.m (Su112.nats (a.order l)++Su112.two (Su112.rate (a.inOrder (a.order l)) l))):=rfl
section
variable {P:Program}{w:World}{K:PySem.W.Frag}{mg:Str→Option Value}{base:Heap}
def aBound:List V→Su112.Call→Hp→Prop:=fun as cl _=>as=[]∧cl=.bound
theorem scBound:Aq ["self"] ["self"] (Ag sBound):=⟨rfl,rfl,rfl,by decide +kernel,rfl,by decide +kernel,by decide +kernel⟩
theorem ok_bound {f C CB tb:Addr}{fd:FuncData}(F:Fun K "bound" "Line.bound" sBound f fd)(CE:AO K C)(mM:mg "min"=none):Ah P w K mg base CX0 1 f fd ["self"] (spM P w tb CB C aBound):=by
 refine F.ok scBound (fun vs H Q E h=>?_) (fun cdv A outer s H vs Q E hr h=>?_)
 ·
  obtain⟨x,dx,ca,ba,as,cl,a,m,rfl,⟨rfl,_⟩,_⟩:=h
  rfl
 ·
  obtain⟨x,dx,ca,ba,as,cl,a,m,rfl,⟨rfl,rfl⟩,L,G,hm,k⟩:=h
  obtain⟨h2,h4⟩:=okC_len G.ch
  refine⟨_,Af (Al (AD (Aa (Az (r:=rMin K) (cr_min rfl) rfl mM (by decide +kernel) (Aa (AE (pv 0) rfl) Ac)) Ac))),?_⟩
  refine⟨_,rfl,x,C,dx,_,_,rfl,L.ins,CE.cls,CE.nC,rfl,ca,a.chances.map fun n=>((n:Nat):Int),rfl,by rw[ints_nV];exact SqL.of L.ch,(by rw[List.length_map];omega),fun z z1 z2=>⟨(by show 1≤sizeLine;decide),fun q hq=>?_⟩⟩
  have e:=min_is G.ch z z1 z2
  subst e
  exact k _ q ca (stp_same L (Ae.upd hq)) (NewL.of hq) Ab
def aGain:List V→Su112.Call→Hp→Prop:=fun as cl _=>∃i,as=[nV i]∧cl=.gain i
theorem scGain:Aq ["self","machine"] ["self","machine"] (Ag sGain):=⟨rfl,rfl,rfl,by decide +kernel,rfl,by decide +kernel,by decide +kernel⟩
theorem ok_gain {f C CB tb fM fH fG:Addr}{fd fdM fdH fdG:FuncData}(F:Fun K "gain" "Line.gain" sGain f fd)(CE:AO K C)(hM:AT K C "has_machine" fM)(GM:Ah P w K mg base CX0 1 fM fdM ["self","machine"] (spHasM C))(bM:An K fdM ["self","machine"] [])
  (hH:AT K C "may_be_higher" fH)(GH:Ah P w K mg base CX0 1 fH fdH ["self","machine"] (spHigh C))(bH:An K fdH ["self","machine"] [])(hG:AT K C "gained_by" fG)(GG:Ah P w K mg base CX0 9 fG fdG ["self","machine"] (spGained P w tb CB C))(bG:An K fdG ["self","machine"] [])
  (mLi:mg "list"=none)(nN:Num mg "NONE_SUCH" (-2))(n17:Num mg "SO_ALREADY" (-17)):Ah P w K mg base CX0 10 f fd ["self","machine"] (spM P w tb CB C aGain):=by
 obtain⟨u2,m2,r2⟩:=nN
 obtain⟨u17,m17,r17⟩:=n17
 refine F.ok scGain (fun vs H Q E h=>?_) (fun cdv A outer s H vs Q E hr h=>?_)
 ·
  obtain⟨x,dx,ca,ba,as,cl,a,m,rfl,⟨i,rfl,_⟩,_⟩:=h
  rfl
 ·
  obtain⟨x,dx,ca,ba,as,cl,a,m,rfl,⟨i,rfl,rfl⟩,L,G,hm,k⟩:=h
  have hr1:AM 1 _:=hr.mono (by decide)
  refine⟨_,Ad (AN (pt_not (pt_val (Ay (pv 0) CE.cls hM GM hr1 bM .nil Ap (Aa (pv 1) Ac)))) (Af (Al (AD (Aa (Av rfl m2 r2) Ac)))) Ax)<|
   Ad (AN (pt_not (pt_val (Ay (pv 0) CE.cls hH GH hr1 bH .nil Ap (Aa (pv 1) Ac)))) (Af (Al (AD (Aa (Av rfl m17 r17) Ac)))) Ax)<|
   Af (Al (AH op_cat (AD (Aa Ao Ac)) (A2 (r:=rListOf K) AX rfl mLi (by decide +kernel) (Aa (Ay (pv 0) CE.cls hG GG hr bG .nil Ap (Aa (pv 1) Ac)) Ac)))),?_⟩
  refine⟨_,rfl,x,dx,_,rfl,L.ins,rfl,_,rfl,x,dx,ca,ba,a.chances,a.total,i,rfl,L.shows,_,rfl,?_⟩
  rw[does_gain] at k
  by_cases e1:i<a.chances.length
  ·
   have hI:a.isM i=true:=decide_eq_true e1
   rw[decide_eq_true e1]
   rw[if_neg (by rw[hI];decide)] at k
   refine A3 ?_
   refine⟨_,rfl,x,dx,_,rfl,L.ins,rfl,_,rfl,x,dx,ca,ba,a.chances,a.total,i,rfl,L.shows,e1,_,rfl,?_⟩
   have h9:=(okC_all G.ch _ (getD_memN e1)).2
   by_cases e2:a.chances.getD i 0<9
   ·
    rw[decide_eq_true e2]
    refine A3 ?_
    rw[if_neg (by omega)] at k
    refine⟨(by show 1≤sizeLine;decide),fun l1 hl1=>?_⟩
    have s1:=Ae.upd (o:=.lst [.int 0]) hl1
    have L1:=L.same s1
    refine⟨_,rfl,x,dx,_,rfl,L1.ins,rfl,_,rfl,x,dx,ca,ba,a,i,m,rfl,L1,G,e1,e2,by omega,fun H4 p4 k4 L4 fr wd _=>?_⟩
    refine⟨p4,_,rfl,.inr (SqT.of fr),fun l5 hl5=>?_⟩
    have s5:=Ae.upd (o:=.lst [.int (diffF (a.better a.best i) a.out).1,.int ((diffF (a.better a.best i) a.out).2:Nat)]) hl5
    have at1:H4 l1=some (.lst [.int 0]):=k4.lst Ab
    refine⟨l1,l5,_,_,rfl,rfl,s5 _ _ at1,Ab,(by show 1+2≤sizeLine;decide),fun l6 hl6=>?_⟩
    have s6:=Ae.upd (o:=.lst ([.int 0]++[.int (diffF (a.better a.best i) a.out).1,.int ((diffF (a.better a.best i) a.out).2:Nat)])) hl6
    have kA:=Ak.trans (Ak.of s1) (Ak.trans k4 (Ak.of s5))
    refine k _ l6 ca (stp_keep (Ak.trans kA (Ak.of s6)) (L4.same (Ae.trans s5 s6)) (by omega)) ((NewL.of hl6).keep kA) ?_
    rw[Ab]
    rfl
   ·
    rw[decide_eq_false e2]
    refine AY ⟨(by show 1≤sizeLine;decide),fun q hq=>?_⟩
    rw[if_pos (by omega)] at k
    exact k _ q ca (stp_same L (Ae.upd hq)) (NewL.of hq) Ab
  ·
   have hI:a.isM i=false:=decide_eq_false e1
   rw[decide_eq_false e1]
   refine AY ⟨(by show 1≤sizeLine;decide),fun q hq=>?_⟩
   rw[if_pos hI] at k
   exact k _ q ca (stp_same L (Ae.upd hq)) (NewL.of hq) Ab
def aWorth:List V→Su112.Call→Hp→Prop:=fun as cl _=>as=[]∧cl=.worth
theorem scWorth:Aq ["self","room","most"] ["self"] (Ag sWorth):=⟨rfl,rfl,rfl,by decide +kernel,rfl,by decide +kernel,by decide +kernel⟩
theorem ok_worth {f C CB tb fN fW fB fL fD:Addr}{fd fdN fdW fdB fdL fdD:FuncData}(F:Fun K "worth" "Line.worth" sWorth f fd)(CE:AO K C)(CEB:ClsEnvB K CB)(hN:AT K C "can_be_put" fN)(GN:Ah P w K mg base CX0 4 fN fdN ["self","room"] (spCan C))(bN:An K fdN ["self","room"] [])
  (hW:AT K CB "best_way" fW)(GW:Ah P w K mg base CX0 7 fW fdW ["self","chances","room"] (spBW P w tb CB Su112.most))(bW:An K fdW ["self","chances","room"] [])
  (hB:AT K C "best_way" fB)(GB:Ah P w K mg base CX0 8 fB fdB ["self"] (spBestWL P w tb CB C))(bB:An K fdB ["self"] [])
  (hL:AT K C "brings" fL)(GL:Ah P w K mg base CX0 7 fL fdL ["self","way"] (spBrings P w K tb CB C))(bL:An K fdL ["self","way"] [])
  (GD:Ah P w K mg base CX0 3 fD fdD ["one","other"] (spDiff K))(bD:An K fdD ["one","other"] [])(kD:PySem.W.keepIn K (.ref fD)=true)(mD:mg "difference"=some (.ref fD))(mLi:mg "list"=none)(n28:Num mg "TOO_MANY" (-28)):
  Ah P w K mg base CX0 9 f fd ["self"] (spM P w tb CB C aWorth):=by
 obtain⟨u28,m28,r28⟩:=n28
 refine F.ok scWorth (fun vs H Q E h=>?_) (fun cdv A outer s H vs Q E hr h=>?_)
 ·
  obtain⟨x,dx,ca,ba,as,cl,a,m,rfl,⟨rfl,_⟩,_⟩:=h
  rfl
 ·
  obtain⟨x,dx,ca,ba,as,cl,a,m,rfl,⟨rfl,rfl⟩,L,G,hm,k⟩:=h
  have hr3:AM 3 _:=hr.mono (by decide)
  have hr4:AM 4 _:=hr.mono (by decide)
  have hr7:AM 7 _:=hr.mono (by decide)
  obtain⟨h2,h4⟩:=okC_len G.ch
  refine⟨_,Ad (As (i:=1) scWorth.nd rfl (Or.inl rfl) (AH op_add (AE (pv 0) rfl) Ao))<|
   Ad (AN (pt_not (pt_val (Ay (pv 0) CE.cls hN GN hr4 bN .nil Ap (Aa (pv 1) Ac)))) (Af (Al (AD (Aa (Av rfl m28 r28) Ac)))) Ax)<|
   Ad (As (i:=2) scWorth.nd rfl (Or.inl rfl) (Ay (pv 0) CE.cls hL GL hr7 bL .nil Ap (Aa (Ay (AE (pv 0) rfl) CEB.cls hW GW hr7 bW .nil Ap (Aa (AE (pv 0) rfl) (Aa (pv 1) Ac))) Ac)))<|
   Af (Al (AH op_cat (AD (Aa Ao Ac)) (A2 (r:=rListOf K) AX rfl mLi (by decide +kernel) (Aa (Aw GD hr3 rfl mD kD bD .nil Ap (Aa (pv 2) (Aa (Ay (pv 0) CE.cls hL GL hr7 bL .nil Ap (Aa (AQ (pv 0) CE.cls hB GB hr bB .nil Ap) Ac)) Ac))) Ac)))),?_⟩
  refine⟨_,rfl,x,C,dx,_,_,rfl,L.ins,CE.cls,CE.nR,rfl,_,_,rfl,rfl,?_⟩
  have e0:((a.total:Nat):Int)+1=((a.total+1:Nat):Int):=by omega
  refine⟨_,rfl,x,dx,_,rfl,L.ins,rfl,_,rfl,x,dx,ca,ba,a.chances,a.total,a.total+1,?_,L.shows,by omega,h4,fun H1 s1=>⟨_,rfl,?_⟩⟩
  ·
   show [V.ref x,V.int (((a.total:Nat):Int)+1)]=[V.ref x,nV (a.total+1)]
   rw[e0];rfl
  have L1:=L.same s1
  rw[does_worth] at k
  have ht:=G.top
  cases hz:canB a.chances (a.total+1) with
  |
   false=>
   refine AY ⟨(by show 1≤sizeLine;decide),fun q hq=>?_⟩
   have hz':=of_decide_eq_false hz
   rw[if_pos (by
    by_cases e:a.total+1≤8
    ·
     right
     exact Classical.byContradiction fun y=>hz' ⟨e,y⟩
    ·
     left;show 8≤a.total;omega)] at k
   exact k _ q ca (stp_same L (Ae.trans s1 (Ae.upd hq))) (NewL.of (s1.free hq)) Ab
  |
   true=>
   refine A3 ?_
   obtain⟨z1,z2⟩:=of_decide_eq_true hz
   rw[if_neg (by
    rintro (y | y)
    ·
     have y':8≤a.total:=y
     omega
    ·
     exact z2 y)] at k
   obtain⟨bx,db,kvs,hins,_⟩:=L1.bo.ex
   refine⟨_,rfl,x,dx,_,rfl,L1.ins,rfl,_,rfl,x,C,dx,_,_,rfl,L1.ins,CE.cls,CE.nB,rfl,ba,bx,_,rfl,hins,rfl,_,rfl,x,C,dx,_,_,rfl,L1.ins,CE.cls,CE.nC,rfl,_,rfl,ba,ca,a.chances,a.total+1,m,?_,L1.bo,L1.ch,G.ch,z1,z2,by omega,fun H2 wa k2 B2 st2=>?_⟩
   ·
    show [V.ref ba,V.ref ca,V.int (((a.total:Nat):Int)+1)]=[V.ref ba,V.ref ca,nV (a.total+1)]
    rw[e0];rfl
   have L2':=L1.keep k2 B2
   have fm:Fine a.chances (Su112.most a.chances (Su112.waysOf (a.chances.length-1) (a.total+1))):=fine_of G.ch z1 (most_mem _ _ z2)
   refine⟨x,wa,dx,ca,ba,a.chances,_,a.total,m+100,rfl,L2',.inr st2,fm,by omega,fun H3 p1 k3 L3 fr1 sm1=>?_⟩
   refine⟨(by show 1≤sizeLine;decide),fun l1 hl1=>?_⟩
   have s3:=Ae.upd (o:=.lst [.int 0]) hl1
   have L4:=L3.same s3
   refine⟨_,rfl,_,rfl,x,dx,_,rfl,L4.ins,rfl,_,rfl,x,dx,_,rfl,L4.ins,rfl,x,dx,ca,ba,a,m+101,rfl,L4,G,by omega,fun H5 wb k5 L5 st5=>?_⟩
   refine⟨x,wb,dx,ca,ba,a.chances,a.best,a.total,m+101+100,rfl,L5,.inr st5,best_fine G,by omega,fun H6 p2 k6 L6 fr2 sm2=>?_⟩
   have k36:=Ak.trans (Ak.of s3) (Ak.trans k5 k6)
   refine⟨p1,p2,_,a.out,rfl,SqT.of (k36.fr fr1),SqT.of fr2,sm1,sm2,(fine_canon fm).1,(fine_canon (best_fine G)).1,fun p hp=>?_⟩
   have s7:=Ae.upd (o:=.tup [.int (diffF (Su112.rate a.chances (Su112.most a.chances (Su112.waysOf (a.chances.length-1) (a.total+1)))) a.out).1,.int ((diffF (Su112.rate a.chances (Su112.most a.chances (Su112.waysOf (a.chances.length-1) (a.total+1)))) a.out).2:Nat)]) hp
   refine⟨p,_,rfl,.inr (SqT.of Ab),fun l5 hl5=>?_⟩
   have s8:=Ae.upd (o:=.lst [.int (diffF (Su112.rate a.chances (Su112.most a.chances (Su112.waysOf (a.chances.length-1) (a.total+1)))) a.out).1,.int ((diffF (Su112.rate a.chances (Su112.most a.chances (Su112.waysOf (a.chances.length-1) (a.total+1)))) a.out).2:Nat)]) hl5
   have at1:H6 l1=some (.lst [.int 0]):=k6.lst (k5.lst Ab)
   refine⟨l1,l5,_,_,rfl,rfl,s8 _ _ (s7 _ _ at1),Ab,(by show 1+2≤sizeLine;decide),fun l6 hl6=>?_⟩
   have s9:=Ae.upd (o:=.lst ([.int 0]++[.int (diffF (Su112.rate a.chances (Su112.most a.chances (Su112.waysOf (a.chances.length-1) (a.total+1)))) a.out).1,.int ((diffF (Su112.rate a.chances (Su112.most a.chances (Su112.waysOf (a.chances.length-1) (a.total+1)))) a.out).2:Nat)])) hl6
   have kA:=Ak.trans (Ak.of s1) (Ak.trans k2 (Ak.trans k3 (Ak.trans k36 (Ak.of (Ae.trans s7 s8)))))
   refine k _ l6 ca (stp_keep (Ak.trans kA (Ak.of s9)) (L6.same (Ae.trans s7 (Ae.trans s8 s9))) (by omega)) ((NewL.of hl6).keep kA) ?_
   rw[Ab]
   rfl
def aOrder (K:PySem.W.Frag):List V→Su112.Call→Hp→Prop:=fun as cl H=>∃(wa:Addr) (l:List Nat),as=[.ref wa]∧SqL K H wa (l.map nV)∧l.length≤1000∧cl=.order l
theorem scOrder:Aq ["self","way","order","brings"] ["self","way"] (Ag sOrder):=⟨rfl,rfl,rfl,by decide +kernel,rfl,by decide +kernel,by decide +kernel⟩
theorem ok_order {f C CB tb fR fB fI fO fJ:Addr}{fd fdR fdB fdI fdO fdJ:FuncData}(F:Fun K "order" "Line.order" sOrder f fd)(CE:AO K C)(CEB:ClsEnvB K CB)(hR:AT K C "rooms" fR)(GR:Ah P w K mg base CX0 1 fR fdR ["self"] (spRooms C))(bR:An K fdR ["self"] [])
  (hB:AT K CB "brings" fB)(GB:Ah P w K mg base CX0 6 fB fdB ["self","chances","way"] (spBrB P w K tb CB))(bB:An K fdB ["self","chances","way"] [])(GI:Ah P w K mg base CX0 2 fI fdI ["way","rooms"] (spIsWay K))(bI:An K fdI ["way","rooms"] [])(kI:PySem.W.keepIn K (.ref fI)=true)
  (mI:mg "is_way"=some (.ref fI))(hO:AT K CB "best_order" fO)(GO:Ah P w K mg base CX0 7 fO fdO ["self","chances","way"] (spBO P w K tb CB))(bO:An K fdO ["self","chances","way"] [])
  (GJ:Ah P w K mg base CX0 1 fJ fdJ ["chances","order"] (spInO K))(bJ:An K fdJ ["chances","order"] [])(kJ:PySem.W.keepIn K (.ref fJ)=true)(mJ:mg "in_order"=some (.ref fJ))
  (mLi:mg "list"=none)(mL:mg "len"=none)(nO:Num mg "OUT_OF_RANGE" (-22)):Ah P w K mg base CX0 8 f fd ["self","way"] (spM P w tb CB C (aOrder K)):=by
 obtain⟨u22,m22,r22⟩:=nO
 refine F.ok scOrder (fun vs H Q E h=>?_) (fun cdv A outer s H vs Q E hr h=>?_)
 ·
  obtain⟨x,dx,ca,ba,as,cl,a,m,rfl,⟨wa,l,rfl,_⟩,_⟩:=h
  rfl
 ·
  obtain⟨x,dx,ca,ba,as,cl,a,m,rfl,⟨wa,l,rfl,hl,h1000,rfl⟩,L,G,hm,k⟩:=h
  have hr1:AM 1 _:=hr.mono (by decide)
  have hr2:AM 2 _:=hr.mono (by decide)
  have hr6:AM 6 _:=hr.mono (by decide)
  obtain⟨h2,h4⟩:=okC_len G.ch
  refine⟨_,Ad (AN (pt_not (pt_val (Aw GI hr2 rfl mI kI bI .nil Ap (Aa (pv 1) (Aa (AQ (pv 0) CE.cls hR GR hr1 bR .nil Ap) Ac))))) (Af (Al (AD (Aa (Av rfl m22 r22) Ac)))) Ax)<|
   Ad (As (i:=2) scOrder.nd rfl (Or.inl rfl) (Ay (AE (pv 0) rfl) CEB.cls hO GO hr bO .nil Ap (Aa (AE (pv 0) rfl) (Aa (pv 1) Ac))))<|
   Ad (As (i:=3) scOrder.nd rfl (Or.inl rfl) (Ay (AE (pv 0) rfl) CEB.cls hB GB hr6 bB .nil Ap (Aa (Aw GJ hr1 rfl mJ kJ bJ .nil Ap (Aa (AE (pv 0) rfl) (Aa (pv 2) Ac))) (Aa (pv 1) Ac))))<|
   Af (Al (AH op_cat (AH op_cat (AD (Aa (Az (r:=rLenA K) At rfl mL PySem.boot_len (Aa (pv 2) Ac)) Ac)) (A2 (r:=rListOf K) AX rfl mLi (by decide +kernel) (Aa (pv 2) Ac)))
    (A2 (r:=rListOf K) AX rfl mLi (by decide +kernel) (Aa (pv 3) Ac)))),?_⟩
  refine⟨_,rfl,_,rfl,x,dx,_,rfl,L.ins,rfl,x,dx,ca,ba,a.chances,a.total,rfl,L.shows,by omega,wa,l,a.chances.length-1,rfl,.inl hl,_,rfl,?_⟩
  have ew:okWay (a.chances.length-1) l=a.okW l:=rfl
  rw[ew]
  cases hz:a.okW l with
  |
   false=>
   refine AY ⟨(by show 1≤sizeLine;decide),fun q hq=>?_⟩
   rw[does_order,if_pos hz] at k
   exact k _ q ca (stp_same L (Ae.upd hq)) (NewL.of hq) Ab
  |
   true=>
   refine A3 ?_
   rw[does_order,if_neg (by rw[hz];decide)] at k
   have hF:=fine_okW G.ch hz
   have hw:WayAt K H wa l:=.inl hl
   obtain⟨bx,db,kvs,hins,_⟩:=L.bo.ex
   refine⟨_,rfl,x,C,dx,_,_,rfl,L.ins,CE.cls,CE.nB,rfl,ba,bx,_,rfl,hins,rfl,_,rfl,x,C,dx,_,_,rfl,L.ins,CE.cls,CE.nC,rfl,_,rfl,ba,ca,wa,a,l,m,rfl,L.bo,L.ch,G.ch,hw,hz,by omega,fun H1 oa k1 B1 st1 hol hoy=>?_⟩
   have L1:=L.keep k1 B1
   obtain⟨bx,db,kvs,hins,_⟩:=L1.bo.ex
   refine⟨_,rfl,x,C,dx,_,_,rfl,L1.ins,CE.cls,CE.nB,rfl,ba,bx,_,rfl,hins,rfl,_,rfl,x,C,dx,_,_,rfl,L1.ins,CE.cls,CE.nC,rfl,_,rfl,ca,oa,a.chances,a.order l,rfl,L1.ch,st1,hoy,by omega,fun H2 D s2 hD at2=>?_⟩
   have L2':=L1.same s2
   refine⟨_,rfl,ba,D,wa,a.inOrder (a.order l),l,m+100,rfl,L2'.bo,.inl (SqL.of at2),(Ak.trans k1 (Ak.of s2)).way hw,fine_order hF hol hoy,by omega,fun H3 p3 k3 B3 fr sm=>?_⟩
   have L3:=L2'.keep k3 B3
   have k13:=Ak.trans (Ak.of s2) k3
   have st3:AR H3 oa (a.order l):=k13.tup st1
   have kz:=Ak.trans k1 k13
   refine⟨_,rfl,oa,_,rfl,.inr (SqT.of st3),(by show 1≤sizeLine;decide),fun l1 hl1=>?_⟩
   rw[List.length_map]
   have s4:=Ae.upd (o:=.lst [nV (a.order l).length]) hl1
   refine⟨_,rfl,oa,(a.order l).map nV,rfl,.inr (SqT.of (s4 _ _ st3)),fun l2 hl2=>?_⟩
   have s5:=Ae.upd (o:=.lst ((a.order l).map nV)) hl2
   refine⟨l1,l2,_,_,rfl,rfl,s5 _ _ Ab,Ab,(by rw[List.length_map];exact Nat.le_of_lt (AC (by show 1+(a.order l).length≤1000;omega))),fun l3 hl3=>?_⟩
   have s6:=Ae.upd (o:=.lst ([nV (a.order l).length]++(a.order l).map nV)) hl3
   have s46:=Ae.trans s4 (Ae.trans s5 s6)
   refine⟨_,rfl,p3,_,rfl,.inr (SqT.of (s46 _ _ fr)),fun l5 hl5=>?_⟩
   have s7:=Ae.upd (o:=.lst [.int (Su112.rate (a.inOrder (a.order l)) l).1,.int ((Su112.rate (a.inOrder (a.order l)) l).2:Nat)]) hl5
   refine⟨l3,l5,_,_,rfl,rfl,s7 _ _ Ab,Ab,(by
    rw[List.length_append,List.length_map];exact Nat.le_of_lt (AC (by show 1+(a.order l).length+2≤1000;omega))),fun l6 hl6=>?_⟩
   have s8:=Ae.upd (o:=.lst ([nV (a.order l).length]++(a.order l).map nV++[.int (Su112.rate (a.inOrder (a.order l)) l).1,.int ((Su112.rate (a.inOrder (a.order l)) l).2:Nat)])) hl6
   have kA:=Ak.trans kz (Ak.of (Ae.trans s46 s7))
   refine k _ l6 ca (stp_keep (Ak.trans kA (Ak.of s8)) (L3.same (Ae.trans s46 (Ae.trans s7 s8))) (by omega)) ((NewL.of hl6).keep kA) ?_
   rw[Ab,ansL_way,hol]
   rfl
end
end Wk
namespace Wk
open PySem PySem.Spec PyProof.Rows L2 Rb
abbrev sWays:Stmt:=mth "ways"
abbrev sPlace:Stmt:=mth "place"
structure GCnt (P:Program)(w:World)(tb CB br:Addr)(H0 H1:Hp)(D:Addr)(k m:Nat):Prop where
 keep:Ak H0 H1
 new:H0 D=none
 bo:Bo P w tb CB br H1 m
 at_:∃gs:List V,H1 D=some (.lst gs)∧gs.length=k
theorem GCnt.start {P:Program}{w:World}{tb CB br:Addr}{H0:Hp}{D:Addr}{m:Nat}(B:Bo P w tb CB br H0 m)(h:H0 D=none):GCnt P w tb CB br H0 (upd H0 D (.lst [])) D 0 m:=
 ⟨Ak.of (Ae.upd h),h,B.same (Ae.upd h),[],Ab,rfl⟩
theorem GCnt.skip {P:Program}{w:World}{tb CB br:Addr}{H0 H1 H2:Hp}{D:Addr}{c m m':Nat}(M:GCnt P w tb CB br H0 H1 D c m)(k:Ak H1 H2)(B:Bo P w tb CB br H2 m'):GCnt P w tb CB br H0 H2 D c m':=by
 obtain⟨gs,h1,h2⟩:=M.at_
 exact⟨Ak.trans M.keep k,M.new,B,gs,k.lst h1,h2⟩
theorem GCnt.grow {P:Program}{w:World}{tb CB br:Addr}{H0 H1 H2:Hp}{D:Addr}{v:V}{c m m':Nat}(M:GCnt P w tb CB br H0 H1 D c m)(k:Ak H1 H2)(B:Bo P w tb CB br H2 m')(hl:c<10000):
  ∃gs,H2 D=some (.lst gs)∧gs.length<sizeLine∧GCnt P w tb CB br H0 (upd H2 D (.lst (gs++[v]))) D (c+1) m':=by
 obtain⟨gs,h1,h2⟩:=M.at_
 have e2:=k.lst h1
 refine⟨gs,e2,by rw[h2];exact Nat.lt_of_lt_of_le hl (by decide),⟨fun b o e q1 q2=>?_,M.new,B.frame (fun b o e q _=>?_),gs++[v],Ab,by rw[List.length_append,h2];rfl⟩⟩
 ·
  rw[Ai (Aj e M.new)];exact k b o (M.keep b o e q1 q2) q1 q2
 ·
  rw[Ai (fun z=>by rw[z,e2] at e;exact q _ (Option.some.inj e).symm)];exact e
theorem does_ways (a:Su112.Abs):Su112.does a .ways=(a,Su112.num a.all.length [Su112.nat (a.all.filter fun r=>Su112.rate a.chances r==a.out).length]):=rfl
theorem does_place (a:Su112.Abs)(l:List Nat):Su112.does a (.place l)=if a.okW l=false∨l.sum≠a.total then (a,Su112.no (-22)) else (a,Su112.num (a.all.filter fun r=>Su111.less (Su112.rate a.chances l) (Su112.rate a.chances r)).length []):=rfl
theorem filter_take {α:Type}{l:List α}{i:Nat}{x:α}(f:α→Bool)(h:l[i]?=some x):((l.take (i+1)).filter f).length=((l.take i).filter f).length+(if f x=true then 1 else 0):=by
 rw[AJ h,List.filter_append,List.length_append]
 congr 1
 cases e:f x<;>simp[List.filter_cons,e]
theorem eqv_fr (f g:Su111.Fr):PyData.eqv (.tuple [.int f.1,.int (f.2:Nat)]) (.tuple [.int g.1,.int (g.2:Nat)])=(f==g):=by
 obtain⟨a,b⟩:=f
 obtain⟨c,d⟩:=g
 rw[Bool.eq_iff_iff]
 simp[PyData.eqv,PyData.eqvAll]
 omega
section
variable {P:Program}{w:World}{K:PySem.W.Frag}{mg:Str→Option Value}{base:Heap}
theorem fr_dp {H:Hp}{p:Addr}{f:Su111.Fr}(h:FrAt H p f):Dp K H (.ref p) (.tuple [.int f.1,.int (f.2:Nat)]):=.tup (SqT.of h) (.cons (.int _) (.cons (.int _) .nil))
def aWays:List V→Su112.Call→Hp→Prop:=fun as cl _=>as=[]∧cl=.ways
theorem scWays:Aq ["self","most","ways","way"] ["self"] (Ag sWays):=⟨rfl,rfl,rfl,by decide +kernel,rfl,by decide +kernel,by decide +kernel⟩
theorem ok_ways {f C CB tb fB fL fA:Addr}{fd fdB fdL fdA:FuncData}(F:Fun K "ways" "Line.ways" sWays f fd)(CE:AO K C)
  (hB:AT K C "best_way" fB)(GB:Ah P w K mg base CX0 8 fB fdB ["self"] (spBestWL P w tb CB C))(bB:An K fdB ["self"] [])
  (hL:AT K C "brings" fL)(GL:Ah P w K mg base CX0 7 fL fdL ["self","way"] (spBrings P w K tb CB C))(bL:An K fdL ["self","way"] [])
  (hA:AT K C "ways_of_all_room" fA)(GA:Ah P w K mg base CX0 4 fA fdA ["self"] (spAllW C))(bA:An K fdA ["self"] [])(mL:mg "len"=none):
  Ah P w K mg base CX0 9 f fd ["self"] (spM P w tb CB C aWays):=by
 refine F.ok scWays (fun vs H Q E h=>?_) (fun cdv A outer s H vs Q E hr h=>?_)
 ·
  obtain⟨x,dx,ca,ba,as,cl,a,m,rfl,⟨rfl,_⟩,_⟩:=h
  rfl
 ·
  obtain⟨x,dx,ca,ba,as,cl,a,m,rfl,⟨rfl,rfl⟩,L,G,hm,k⟩:=h
  have hr4:AM 4 _:=hr.mono (by decide)
  have hr7:AM 7 _:=hr.mono (by decide)
  have hu:(A.deeper (envOfC "Line.ways" (Ag sWays) s.heap.objs.size f cdv)).units+64<cLine:=by have:=hr.un;omega
  obtain⟨h2,h4⟩:=okC_len G.ch
  refine⟨_,Ad (As (i:=1) scWays.nd rfl (Or.inr rfl) (Ay (pv 0) CE.cls hL GL hr7 bL .nil Ap (Aa (AQ (pv 0) CE.cls hB GB hr bB .nil Ap) Ac)))<|
   Ad (As (i:=2) scWays.nd rfl (Or.inl rfl) (AQ (pv 0) CE.cls hA GA hr4 bA .nil Ap))<|
   Af (Al (AD (Aa (Az (r:=rLenA K) At rfl mL PySem.boot_len (Aa (pv 2) Ac)) (Aa (Az (r:=rLenA K) At rfl mL PySem.boot_len (Aa (pe_lc (own:=[("way",3)]) (g:=gName 3) rfl scWays.nd (A1 (pv 2)) (A5 (by show blkC ["self","most","ways","way"] (Ag sWays) _ _=true;decide +kernel))
    (fun _ _ _ _ _=>Au (i:=3) scWays.nd rfl (Or.inl rfl) (.inr rfl)) (fun _ _ _ _ _=>pts_one (AB (r:=rEqD K) (op_eqD hu) (Ay (pv 0) CE.cls hL GL hr7 bL .nil Ap (Aa (pv 3) Ac)) (pv 1) (AA _))) (fun _ _ _ _ _=>pv 3)) Ac)) Ac)))),?_⟩
  refine⟨_,rfl,x,dx,_,rfl,L.ins,rfl,_,rfl,x,dx,_,rfl,L.ins,rfl,x,dx,ca,ba,a,m,rfl,L,G,by omega,fun H1 wb k1 L1 st1=>?_⟩
  refine⟨x,wb,dx,ca,ba,a.chances,a.best,a.total,m+100,rfl,L1,.inr st1,best_fine G,by omega,fun H2 p2 k2 L2' fr2 sm2=>?_⟩
  refine⟨_,rfl,x,dx,_,rfl,L2'.ins,rfl,x,dx,ca,ba,a.chances,a.total,rfl,L2'.shows,by omega,h4,G.top,fun H3 lw s3 hlw=>?_⟩
  obtain⟨ts,hts,hpt⟩:=hlw
  have hpt':Paired (AR H3) ts a.all:=hpt
  have hlen:ts.length=a.all.length:=hpt'.length
  have h100:a.all.length≤100:=ways_100 (c:=a.chances) (n:=a.total) (by omega) G.top
  have L3:=L2'.same s3
  have fr3:FrAt H3 p2 a.out:=s3 _ _ fr2
  refine⟨_,rfl,lw,_,rfl,.inl (SqL.of hts),_,rfl,lw,rfl,⟨_,SqL.of hts⟩,fun D hD=>?_⟩
  refine lc_list (K:=K) (a:=lw) (xs:=ts.map V.ref) (fun i H'=>GCnt P w tb CB ba H3 H' D ((a.all.take i).filter fun r=>Su112.rate a.chances r==a.out).length (m+101+i)) (GCnt.start L3.bo hD) (fun i H' _ M=>SqL.of (M.keep.lst hts)) ?_ ?_
  ·
   rintro i y H4 hi M
   obtain⟨t,ht,rfl⟩:=AL hi
   obtain⟨r,hri,hst⟩:=AF hpt' ht
   have hrm:=List.mem_of_getElem? hri
   have hil:i<a.all.length:=by
    rcases Nat.lt_or_ge i a.all.length with z | z
    ·
     exact z
    ·
     rw[List.getElem?_eq_none z] at hri;cases hri
   have L4:=L3.keep M.keep M.bo
   refine⟨rfl,?_⟩
   refine⟨_,rfl,x,dx,_,rfl,L4.ins,rfl,_,rfl,x,t,dx,ca,ba,a.chances,r,a.total,m+101+i,rfl,L4,.inr (M.keep.tup hst),fine_of G.ch G.top hrm,by omega,fun H5 p5 k5 L5 fr5 sm5=>?_⟩
   refine⟨_,rfl,_,_,fr_dp fr5,fr_dp (k5.fr (M.keep.fr fr3)),rfl,rfl,_,rfl,?_⟩
   rw[eqv_fr,filter_take _ hri]
   have hcl:=List.length_filter_le (fun r=>Su112.rate a.chances r==a.out) (a.all.take i)
   rw[List.length_take] at hcl
   cases hz:(Su112.rate a.chances r==a.out) with
   |
    true=>
    refine AY ?_
    obtain⟨gs,b1,b2,b3⟩:=M.grow (v:=.ref t) k5 L5.bo (by omega)
    exact⟨_,rfl,gs,b1,b2,b3⟩
   |
    false=>
    refine A3 ?_
    exact M.skip k5 L5.bo
  ·
   rintro H4 M
   rw[List.length_map,hlen,List.take_length] at M
   obtain⟨gs,g1,g2⟩:=M.at_
   refine⟨D,gs,rfl,.inl (SqL.of g1),(by show 2≤sizeLine;decide),fun q hq=>?_⟩
   have L4:=L3.keep M.keep M.bo
   have kA:=Ak.trans (Ak.trans k1 k2) (Ak.trans (Ak.of s3) M.keep)
   refine k _ q ca (stp_keep (Ak.trans kA (Ak.of (Ae.upd hq))) (L4.same (Ae.upd hq)) (by omega)) ((NewL.of hq).keep kA) ?_
   rw[Ab,does_ways,List.length_map,hlen,g2]
   rfl
def aPlace (K:PySem.W.Frag):List V→Su112.Call→Hp→Prop:=fun as cl H=>∃(wa:Addr) (l:List Nat),as=[.ref wa]∧SqL K H wa (l.map nV)∧l.length≤1000∧cl=.place l
theorem scPlace:Aq ["self","way","own","other"] ["self","way"] (Ag sPlace):=⟨rfl,rfl,rfl,by decide +kernel,rfl,by decide +kernel,by decide +kernel⟩
theorem ok_place {f C CB tb fR fL fI fA fM:Addr}{fd fdR fdL fdI fdA fdM:FuncData}(F:Fun K "place" "Line.place" sPlace f fd)(CE:AO K C)(hR:AT K C "rooms" fR)(GR:Ah P w K mg base CX0 1 fR fdR ["self"] (spRooms C))(bR:An K fdR ["self"] [])
  (hL:AT K C "brings" fL)(GL:Ah P w K mg base CX0 7 fL fdL ["self","way"] (spBrings P w K tb CB C))(bL:An K fdL ["self","way"] [])(GI:Ah P w K mg base CX0 2 fI fdI ["way","rooms"] (spIsWay K))(bI:An K fdI ["way","rooms"] [])(kI:PySem.W.keepIn K (.ref fI)=true)
  (mI:mg "is_way"=some (.ref fI))(hA:AT K C "ways_of_all_room" fA)(GA:Ah P w K mg base CX0 4 fA fdA ["self"] (spAllW C))(bA:An K fdA ["self"] [])
  (GM:Ah P w K mg base CX0 1 fM fdM ["one","other"] (spMore K))(bM:An K fdM ["one","other"] [])(kM:PySem.W.keepIn K (.ref fM)=true)(mM:mg "is_more"=some (.ref fM))(mL:mg "len"=none)(mS:mg "sum"=none)(nO:Num mg "OUT_OF_RANGE" (-22)):
  Ah P w K mg base CX0 8 f fd ["self","way"] (spM P w tb CB C (aPlace K)):=by
 obtain⟨u22,m22,r22⟩:=nO
 refine F.ok scPlace (fun vs H Q E h=>?_) (fun cdv A outer s H vs Q E hr h=>?_)
 ·
  obtain⟨x,dx,ca,ba,as,cl,a,m,rfl,⟨wa,l,rfl,_⟩,_⟩:=h
  rfl
 ·
  obtain⟨x,dx,ca,ba,as,cl,a,m,rfl,⟨wa,l,rfl,hl,h1000,rfl⟩,L,G,hm,k⟩:=h
  have hr1:AM 1 _:=hr.mono (by decide)
  have hr2:AM 2 _:=hr.mono (by decide)
  have hr4:AM 4 _:=hr.mono (by decide)
  obtain⟨h2,h4⟩:=okC_len G.ch
  refine⟨_,Ad (AN (PW.pt (pw_or (pt_not (pt_val (Aw GI hr2 rfl mI kI bI .nil Ap (Aa (pv 1) (Aa (AQ (pv 0) CE.cls hR GR hr1 bR .nil Ap) Ac))))) (pw_or1 (AB op_ne (Az (r:=rSum K) (cr_sum rfl) rfl mS (by decide +kernel) (Aa (pv 1) Ac)) (AE (pv 0) rfl) (AA _))))) (Af (Al (AD (Aa (Av rfl m22 r22) Ac)))) Ax)<|
   Ad (As (i:=2) scPlace.nd rfl (Or.inr rfl) (Ay (pv 0) CE.cls hL GL hr bL .nil Ap (Aa (pv 1) Ac)))<|
   Af (Al (AD (Aa (Az (r:=rLenA K) At rfl mL PySem.boot_len (Aa (pe_lc (own:=[("other",3)]) (g:=gName 3) rfl scPlace.nd (A1 (AQ (pv 0) CE.cls hA GA hr4 bA .nil Ap)) (A5 (by show blkC ["self","way","own","other"] (Ag sPlace) _ _=true;decide +kernel))
    (fun _ _ _ _ _=>Au (i:=3) scPlace.nd rfl (Or.inl rfl) (.inr rfl)) (fun _ _ _ _ _=>pts_one (pt_val (Aw GM hr1 rfl mM kM bM .nil Ap (Aa (Ay (pv 0) CE.cls hL GL hr bL .nil Ap (Aa (pv 3) Ac)) (Aa (pv 2) Ac))))) (fun _ _ _ _ _=>pv 3)) Ac)) Ac))),?_⟩
  refine⟨_,rfl,_,rfl,x,dx,_,rfl,L.ins,rfl,x,dx,ca,ba,a.chances,a.total,rfl,L.shows,by omega,wa,l,a.chances.length-1,rfl,.inl hl,_,rfl,?_⟩
  have ew:okWay (a.chances.length-1) l=a.okW l:=rfl
  rw[ew]
  have no:∀(hz:a.okW l=false∨l.sum≠a.total),tLst (tCons (tC (.int (-22))) tNil) [] H Q:=fun hz=>by
   refine⟨(by show 1≤sizeLine;decide),fun q hq=>?_⟩
   rw[does_place,if_pos hz] at k
   exact k _ q ca (stp_same L (Ae.upd hq)) (NewL.of hq) Ab
  cases hz:a.okW l with
  |
   false=>
   refine AY (AY ?_)
   exact no (.inl hz)
  |
   true=>
   refine A3 ?_
   refine⟨_,rfl,wa,l.map fun n=>((n:Nat):Int),rfl,by rw[ints_nV];exact hl,_,rfl,x,C,dx,_,_,rfl,L.ins,CE.cls,CE.nR,rfl,rfl,_,rfl,?_⟩
   rw[sum_castI]
   by_cases e:l.sum=a.total
   ·
    have eb:(!decide (V.int ((l.sum:Nat):Int)=nV a.total))=false:=by rw[e];simp[nV]
    rw[eb]
    refine A3 ?_
    rw[does_place,if_neg (by rw[hz];rintro (z | z);cases z;exact z e)] at k
    have hF:=fine_okW G.ch hz
    refine⟨_,rfl,x,dx,_,rfl,L.ins,rfl,_,rfl,x,wa,dx,ca,ba,a.chances,l,a.total,m,rfl,L,.inl hl,hF,by omega,fun H2 p2 k2 L2' fr2 sm2=>?_⟩
    refine⟨_,rfl,x,dx,_,rfl,L2'.ins,rfl,x,dx,ca,ba,a.chances,a.total,rfl,L2'.shows,by omega,h4,G.top,fun H3 lw s3 hlw=>?_⟩
    obtain⟨ts,hts,hpt⟩:=hlw
    have hpt':Paired (AR H3) ts a.all:=hpt
    have hlen:ts.length=a.all.length:=hpt'.length
    have h100:a.all.length≤100:=ways_100 (c:=a.chances) (n:=a.total) (by omega) G.top
    have L3:=L2'.same s3
    have fr3:FrAt H3 p2 (Su112.rate a.chances l):=s3 _ _ fr2
    refine⟨lw,rfl,⟨_,SqL.of hts⟩,fun D hD=>?_⟩
    refine lc_list (K:=K) (a:=lw) (xs:=ts.map V.ref) (fun i H'=>GCnt P w tb CB ba H3 H' D ((a.all.take i).filter fun r=>Su111.less (Su112.rate a.chances l) (Su112.rate a.chances r)).length (m+1+i)) (GCnt.start L3.bo hD) (fun i H' _ M=>SqL.of (M.keep.lst hts)) ?_ ?_
    ·
     rintro i y H4 hi M
     obtain⟨t,ht,rfl⟩:=AL hi
     obtain⟨r,hri,hst⟩:=AF hpt' ht
     have hrm:=List.mem_of_getElem? hri
     have hil:i<a.all.length:=by
      rcases Nat.lt_or_ge i a.all.length with z | z
      ·
       exact z
      ·
       rw[List.getElem?_eq_none z] at hri;cases hri
     have L4:=L3.keep M.keep M.bo
     refine⟨rfl,?_⟩
     refine⟨_,rfl,x,dx,_,rfl,L4.ins,rfl,_,rfl,x,t,dx,ca,ba,a.chances,r,a.total,m+1+i,rfl,L4,.inr (M.keep.tup hst),fine_of G.ch G.top hrm,by omega,fun H5 p5 k5 L5 fr5 sm5=>?_⟩
     refine⟨_,rfl,p5,p2,_,_,rfl,SqT.of fr5,SqT.of (k5.fr (M.keep.fr fr3)),sm5.wide.1,sm5.wide.2,sm2.wide.1,sm2.wide.2,_,rfl,?_⟩
     rw[filter_take _ hri]
     have hcl:=List.length_filter_le (fun r=>Su111.less (Su112.rate a.chances l) (Su112.rate a.chances r)) (a.all.take i)
     rw[List.length_take] at hcl
     cases hy:Su111.less (Su112.rate a.chances l) (Su112.rate a.chances r) with
     |
      true=>
      refine AY ?_
      obtain⟨gs,b1,b2,b3⟩:=M.grow (v:=.ref t) k5 L5.bo (by omega)
      exact⟨_,rfl,gs,b1,b2,b3⟩
     |
      false=>
      refine A3 ?_
      exact M.skip k5 L5.bo
    ·
     rintro H4 M
     rw[List.length_map,hlen,List.take_length] at M
     obtain⟨gs,g1,g2⟩:=M.at_
     refine⟨D,gs,rfl,.inl (SqL.of g1),(by show 1≤sizeLine;decide),fun q hq=>?_⟩
     have L4:=L3.keep M.keep M.bo
     have kA:=Ak.trans k2 (Ak.trans (Ak.of s3) M.keep)
     refine k _ q ca (stp_keep (Ak.trans kA (Ak.of (Ae.upd hq))) (L4.same (Ae.upd hq)) (by omega)) ((NewL.of hq).keep kA) ?_
     rw[Ab,g2]
     rfl
   ·
    have eb:(!decide (V.int ((l.sum:Nat):Int)=nV a.total))=true:=by
     have:¬(V.int ((l.sum:Nat):Int)=nV a.total):=fun z=>e (by have:=V.int.inj z;omega)
     rw[decide_eq_false this];rfl
    rw[eb]
    refine AY ?_
    exact no (.inr e)
end
end Wk
namespace Rb
theorem find_hit {α:Type}{l:List α}{i:Nat}{x:α}{p:α→Bool}(h:l[i]?=some x)(h0:(l.take i).find? p=none)(hp:p x=true):l.find? p=some x:=by
 have e:l=l.take (i+1)++l.drop (i+1):=(List.take_append_drop _ _).symm
 rw[e,Wk.AJ h,List.find?_append,List.find?_append,h0]
 simp[List.find?_cons,hp]
theorem find_miss {α:Type}{l:List α}{i:Nat}{x:α}{p:α→Bool}(h:l[i]?=some x)(h0:(l.take i).find? p=none)(hp:p x=false):(l.take (i+1)).find? p=none:=by
 rw[Wk.AJ h,List.find?_append,h0]
 simp[List.find?_cons,hp]
def AU (a:Su112.Abs)(k:Nat):List Nat:=(List.range k).filter fun i=>decide (a.chances.getD i 0<9)
theorem highs_succ (a:Su112.Abs)(k:Nat):AU a (k+1)=AU a k++(if decide (a.chances.getD k 0<9)=true then [k] else []):=by
 unfold AU
 rw[List.range_succ,List.filter_append]
 congr 1
 cases h:decide (a.chances.getD k 0<9) with
 | true=>rw[List.filter_cons,h];rfl
 | false=>rw[List.filter_cons,h];rfl
theorem highs_len (a:Su112.Abs)(k:Nat):(AU a k).length≤k:=by
 unfold AU
 exact Nat.le_trans (List.length_filter_le _ _) (by simp)
theorem highs_mem {a:Su112.Abs}{k i:Nat}(h:i∈AU a k):i<k∧a.chances.getD i 0<9:=by
 unfold AU at h
 obtain⟨h1,h2⟩:=List.mem_filter.mp h
 exact⟨List.mem_range.mp h1,of_decide_eq_true h2⟩
theorem neck_none {a:Su112.Abs}(h:AU a a.m=[]):a.neck=none:=by
 unfold Su112.Abs.neck
 unfold AU at h
 rw[h];rfl
theorem neck_some {a:Su112.Abs}(h:0<(AU a a.m).length):
  a.neck=some ((AU a a.m).getD (ixOf Su111.less ((AU a a.m).map (a.better a.best)) (AU a a.m).length) 0,a.better a.best ((AU a a.m).getD (ixOf Su111.less ((AU a a.m).map (a.better a.best)) (AU a a.m).length) 0)):=by
 have e:=neck_ix (a.better a.best) (AU a a.m) 0 h
 refine Eq.trans ?_ e
 unfold Su112.Abs.neck AU
 dsimp only
 congr 1
 funext b i
 cases b<;>rfl
end Rb
namespace Wk
open PySem PySem.Spec PyProof.Rows L2 Rb
abbrev sNeck:Stmt:=mth "neck"
abbrev sNeed:Stmt:=mth "need"
theorem does_neck (a:Su112.Abs):Su112.does a .neck=(match a.neck with
  | none=>(a,Su112.no (-6))
  | some i=>(a,Su112.num i.1 (Su112.two (diffF i.2 a.out)))):=rfl
theorem does_need (a:Su112.Abs)(x y:Nat):Su112.does a (.need x y)=if y=0∨1000<y∨y<x then (a,Su112.no (-22)) else (match a.need x y with
  | none=>(a,Su112.no (-33))
  | some n=>(a,Su112.num n (Su112.nats (Su112.most a.chances (Su112.waysOf a.gaps n))))):=rfl
def needP (a:Su112.Abs)(x y n:Nat):Bool:=Su112.waysOf a.gaps n !=[]&&!(Su111.less (Su112.rate a.chances (Su112.most a.chances (Su112.waysOf a.gaps n))) (Su111.low (Int.ofNat x) y))
theorem need_eq (a:Su112.Abs)(x y:Nat):a.need x y=((List.range 9).drop a.gaps).find? (needP a x y):=rfl
theorem rooms_at {g i:Nat}(h:g+i<9):((List.range 9).drop g)[i]?=some (g+i):=by
 rw[List.getElem?_drop,List.getElem?_range h]
section
variable {P:Program}{w:World}{K:PySem.W.Frag}{mg:Str→Option Value}{base:Heap}
def aNeck:List V→Su112.Call→Hp→Prop:=fun as cl _=>as=[]∧cl=.neck
abbrev nNeck:List Str:=["self","machines","gained","most","machine"]
theorem scNeck:Aq nNeck ["self"] (Ag sNeck):=⟨rfl,rfl,rfl,by decide +kernel,rfl,by decide +kernel,by decide +kernel⟩
theorem ok_neck {f C CB tb fH fG fM:Addr}{fd fdH fdG fdM:FuncData}(F:Fun K "neck" "Line.neck" sNeck f fd)(CE:AO K C)
  (hH:AT K C "may_be_higher" fH)(GH:Ah P w K mg base CX0 1 fH fdH ["self","machine"] (spHigh C))(bH:An K fdH ["self","machine"] [])(hG:AT K C "gained_by" fG)(GG:Ah P w K mg base CX0 9 fG fdG ["self","machine"] (spGained P w tb CB C))(bG:An K fdG ["self","machine"] [])
  (GM:Ah P w K mg base CX0 2 fM fdM ["fractions"] (spFirst Su111.less))(bM:An K fdM ["fractions"] [])(kM:PySem.W.keepIn K (.ref fM)=true)(mM:mg "first_most"=some (.ref fM))
  (mLi:mg "list"=none)(mL:mg "len"=none)(mR:mg "range"=none)(n6:Num mg "NONE" (-6)):Ah P w K mg base CX0 10 f fd ["self"] (spM P w tb CB C aNeck):=by
 obtain⟨u6,m6,r6⟩:=n6
 refine F.ok scNeck (fun vs H Q E h=>?_) (fun cdv A outer s H vs Q E hr h=>?_)
 ·
  obtain⟨x,dx,ca,ba,as,cl,a,m,rfl,⟨rfl,_⟩,_⟩:=h
  rfl
 ·
  obtain⟨x,dx,ca,ba,as,cl,a,m,rfl,⟨rfl,rfl⟩,L,G,hm,k⟩:=h
  have hr1:AM 1 _:=hr.mono (by decide)
  have hr2:AM 2 _:=hr.mono (by decide)
  obtain⟨h2,h4⟩:=okC_len G.ch
  refine⟨_,Ad (ps_setLc (i:=1) (own:=[("machine",4)]) (g:=gName 4) rfl scNeck.nd rfl rfl (sw_true rfl rfl rfl rfl) (pi_range1 rfl mR (Aa (Az (r:=rLenA K) At rfl mL PySem.boot_len (Aa (AE (pv 0) rfl) Ac)) Ac)) (A5 (by show blkC nNeck (Ag sNeck) _ _=true;decide +kernel))
    (fun _ _ _ _ _=>Au (i:=4) scNeck.nd rfl (Or.inl rfl) (.inr rfl)) (fun _ _ _ _ _=>pts_one (pt_val (Ay (pv 0) CE.cls hH GH hr1 bH .nil Ap (Aa (pv 4) Ac)))) (fun _ _ _ _ _=>pv 4))<|
   Ad (AN (AB op_eq (Az (r:=rLenA K) At rfl mL PySem.boot_len (Aa (pv 1) Ac)) Ao (AA _)) (Af (Al (AD (Aa (Av rfl m6 r6) Ac)))) Ax)<|
   Ad (ps_setLc (i:=2) (own:=[("machine",4)]) (g:=gName 4) rfl scNeck.nd rfl rfl (sw_true rfl rfl rfl rfl) (A1 (pv 1)) (A5 (by show blkC nNeck (Ag sNeck) _ _=true;decide +kernel))
    (fun _ _ _ _ _=>Au (i:=4) scNeck.nd rfl (Or.inl rfl) (.inr rfl)) (fun _ _ _ _ _=>pts_nil) (fun _ _ _ _ _=>Ay (pv 0) CE.cls hG GG hr bG .nil Ap (Aa (pv 4) Ac)))<|
   Ad (As (i:=3) scNeck.nd rfl (Or.inl rfl) (Aw GM hr2 rfl mM kM bM .nil Ap (Aa (pv 2) Ac)))<|
   Af (Al (AH op_cat (AD (Aa (AK AI (pv 1) (pv 3) (fun _ _=>rfl)) Ac)) (A2 (r:=rListOf K) AX rfl mLi (by decide +kernel) (Aa (AK AI (pv 2) (pv 3) (fun _ _=>rfl)) Ac)))),?_⟩
  refine⟨_,rfl,x,C,dx,_,_,rfl,L.ins,CE.cls,CE.nC,rfl,ca,_,rfl,.inl (SqL.of L.ch),_,rfl,?_,?_,fun D hD=>?_⟩
  ·
   rw[List.length_map];show -(2^62:Int)≤((a.chances.length:Nat):Int);omega
  ·
   rw[List.length_map];show ((a.chances.length:Nat):Int)<2^62;omega
  rw[List.length_map,Int.toNat_natCast]
  refine lc_range (n:=a.chances.length) (fun i H'=>Ae H H'∧H' D=some (.lst ((AU a i).map nV))) ⟨Ae.upd hD,Ab⟩ ?_ ?_
  ·
   rintro i H2 hi ⟨sm,hDi⟩
   have e1:(0:Int)+((i:Nat):Int)=((i:Nat):Int):=by omega
   rw[e1]
   have L2':=L.same sm
   refine⟨rfl,?_⟩
   refine⟨_,rfl,x,dx,_,rfl,L2'.ins,rfl,_,rfl,x,dx,ca,ba,a.chances,a.total,i,rfl,L2'.shows,hi,_,rfl,?_⟩
   rw[highs_succ]
   have hll:=highs_len a i
   cases hz:decide (a.chances.getD i 0<9) with
   |
    true=>
    refine AY ?_
    rw[if_pos rfl]
    refine⟨_,rfl,_,hDi,by rw[List.length_map];exact AC (by omega),fun b o e=>?_,?_⟩
    ·
     rw[Ai (Aj e hD)];exact sm _ _ e
    ·
     rw[Ab,List.map_append];rfl
   |
    false=>
    refine A3 ?_
    rw[if_neg Bool.false_ne_true,List.append_nil]
    exact⟨sm,hDi⟩
  ·
   rintro H1 ⟨s1,hD1⟩
   have hml:a.m=a.chances.length:=rfl
   rw[←hml] at hD1
   have L1:=L.same s1
   have hll:=highs_len a a.m
   refine⟨_,rfl,D,_,rfl,.inl (SqL.of hD1),rfl,_,rfl,?_⟩
   rw[List.length_map]
   by_cases e3:AU a a.m=[]
   ·
    have hb:decide (V.int (((AU a a.m).length:Nat):Int)=V.int 0)=true:=by rw[e3];rfl
    rw[hb]
    refine AY ⟨(by show 1≤sizeLine;decide),fun q hq=>?_⟩
    rw[does_neck,neck_none e3] at k
    exact k _ q ca (stp_same L (Ae.trans s1 (Ae.upd hq))) (NewL.of (s1.free hq)) Ab
   ·
    have hpos:0<(AU a a.m).length:=List.length_pos_iff.mpr e3
    have hb:decide (V.int (((AU a a.m).length:Nat):Int)=V.int 0)=false:=decide_eq_false (fun z=>by
     have z2:=V.int.inj z
     omega)
    rw[hb]
    refine A3 ?_
    rw[does_neck,neck_some hpos] at k
    dsimp only at k
    have pout:=(fine_canon (best_fine G)).1
    refine⟨_,rfl,D,rfl,⟨_,SqL.of hD1⟩,fun D2 hD2=>?_⟩
    refine lc_list (K:=K) (a:=D) (xs:=(AU a a.m).map nV) (fun i H'=>GFr P w tb CB ba H1 H' D2 (((AU a a.m).take i).map fun j=>diffF (a.better a.best j) a.out) (m+102*i)∧∀j∈(AU a a.m).take i,0<(a.better a.best j).2)
     ⟨GFr.start L1.bo hD2,fun j hj=>by simp at hj⟩ (fun i H' _ M=>SqL.of (M.1.keep.lst hD1)) ?_ ?_
    ·
     rintro i y H2 hi ⟨M,hps⟩
     obtain⟨hlt,rfl⟩:=map_nV_at hi
     have hjm:=highs_mem (getD_memN hlt)
     have e4:(AU a a.m)[i]?=some ((AU a a.m).getD i 0):=by rw[List.getD_eq_getElem?_getD,List.getElem?_eq_getElem hlt];rfl
     refine⟨rfl,?_⟩
     dsimp only[tYes]
     rw[if_pos rfl]
     have L2':=L1.keep M.keep M.bo
     refine⟨_,rfl,x,dx,_,rfl,L2'.ins,rfl,_,rfl,x,dx,ca,ba,a,(AU a a.m).getD i 0,m+102*i,rfl,L2',G,hjm.1,hjm.2,by omega,fun H3 p k3 L3 fr wd pb=>?_⟩
     obtain⟨gs,b1,b2,b3⟩:=M.grow k3 L3.bo fr wd (by rw[List.length_map,List.length_take];omega)
     refine⟨gs,b1,b2,?_,?_⟩
     ·
      rw[AJ e4,List.map_append]
      exact b3
     ·
      rw[AJ e4]
      intro j hj
      rcases List.mem_append.mp hj with z | z
      ·
       exact hps j z
      ·
       rw[List.mem_singleton.mp z];exact pb
    ·
     rintro H2 ⟨M,hps⟩
     rw[List.length_map,List.take_length] at M hps
     have L2':=L1.keep M.keep M.bo
     refine⟨_,rfl,D2,_,rfl,M.at_,by rw[List.length_map];exact hpos,M.wd,fun H3 s3=>?_⟩
     rw[List.length_map]
     have hcg:=ixOf_congr ((AU a a.m).map fun j=>diffF (a.better a.best j) a.out) ((AU a a.m).map (a.better a.best)) (by rw[List.length_map,List.length_map]) (by
      intro i j hi hj
      rw[List.length_map] at hi hj
      rw[getD_map' _ _ 0 _ hi,getD_map' _ _ 0 _ hj,getD_map' _ _ 0 _ hi,getD_map' _ _ 0 _ hj]
      exact less_diff (hps _ (getD_memN hi)) (hps _ (getD_memN hj)) pout) (AU a a.m).length (by rw[List.length_map];exact Nat.le_refl _)
     rw[hcg]
     have hj:=ixOf_lt Su111.less ((AU a a.m).map (a.better a.best)) (by rw[List.length_map];exact hpos) (AU a a.m).length (by rw[List.length_map];exact Nat.le_refl _)
     rw[List.length_map] at hj
     generalize ixOf Su111.less ((AU a a.m).map (a.better a.best)) (AU a a.m).length=j at hj k
     have hD3:=s3 _ _ (M.keep.lst hD1)
     have L3:=L2'.same s3
     refine⟨_,rfl,_,rfl,D,_,_,_,rfl,rfl,SqL.of hD3,at_nV hj,(by show 1≤sizeLine;decide),fun l1 hl1=>?_⟩
     have s4:=Ae.upd (o:=.lst [nV ((AU a a.m).getD j 0)]) hl1
     obtain⟨ts,hts,hpt⟩:=M.at_
     have hlen:ts.length=(AU a a.m).length:=by rw[hpt.length,List.length_map]
     obtain⟨fj,hfj,hfr⟩:=AF hpt (i:=j) (a:=ts.getD j 0) (by rw[List.getD_eq_getElem?_getD,List.getElem?_eq_getElem (by omega)];rfl)
     have ef:fj=diffF (a.better a.best ((AU a a.m).getD j 0)) a.out:=by
      have:=getD_map' (fun j=>diffF (a.better a.best j) a.out) (AU a a.m) 0 j hj
      rw[List.getD_eq_getElem?_getD,hfj] at this
      exact this
     rw[ef] at hfr
     refine⟨_,rfl,_,rfl,D2,_,_,_,rfl,rfl,SqL.of (s4 _ _ (s3 _ _ hts)),bs_ix (by omega),ts.getD j 0,_,rfl,.inr (SqT.of (s4 _ _ (s3 _ _ hfr))),fun l5 hl5=>?_⟩
     have s5:=Ae.upd (o:=.lst [.int (diffF (a.better a.best ((AU a a.m).getD j 0)) a.out).1,.int ((diffF (a.better a.best ((AU a a.m).getD j 0)) a.out).2:Nat)]) hl5
     refine⟨l1,l5,_,_,rfl,rfl,s5 _ _ Ab,Ab,(by show 1+2≤sizeLine;decide),fun l6 hl6=>?_⟩
     have s6:=Ae.upd (o:=.lst ([nV ((AU a a.m).getD j 0)]++[.int (diffF (a.better a.best ((AU a a.m).getD j 0)) a.out).1,.int ((diffF (a.better a.best ((AU a a.m).getD j 0)) a.out).2:Nat)])) hl6
     have s35:=Ae.trans s3 (Ae.trans s4 s5)
     have kA:=Ak.trans (Ak.of s1) (Ak.trans M.keep (Ak.of s35))
     refine k _ l6 ca (stp_keep (Ak.trans kA (Ak.of s6)) (L3.same (Ae.trans s4 (Ae.trans s5 s6))) (by omega)) ((NewL.of hl6).keep kA) ?_
     rw[Ab]
     rfl
def aNeed:List V→Su112.Call→Hp→Prop:=fun as cl _=>∃x y,as=[nV x,nV y]∧cl=.need x y
theorem scNeed:Aq ["self","above","below","room","way"] ["self","above","below"] (Ag sNeed):=⟨rfl,rfl,rfl,by decide +kernel,rfl,by decide +kernel,by decide +kernel⟩
theorem ok_need {f C CB tb fR fN fW fL fM:Addr}{fd fdR fdN fdW fdL fdM:FuncData}(F:Fun K "need" "Line.need" sNeed f fd)(CE:AO K C)(CEB:ClsEnvB K CB)(hR:AT K C "rooms" fR)(GR:Ah P w K mg base CX0 1 fR fdR ["self"] (spRooms C))(bR:An K fdR ["self"] [])
  (hN:AT K C "can_be_put" fN)(GN:Ah P w K mg base CX0 4 fN fdN ["self","room"] (spCan C))(bN:An K fdN ["self","room"] [])
  (hW:AT K CB "best_way" fW)(GW:Ah P w K mg base CX0 7 fW fdW ["self","chances","room"] (spBW P w tb CB Su112.most))(bW:An K fdW ["self","chances","room"] [])
  (hL:AT K C "brings" fL)(GL:Ah P w K mg base CX0 7 fL fdL ["self","way"] (spBrings P w K tb CB C))(bL:An K fdL ["self","way"] [])
  (GM:Ah P w K mg base CX0 1 fM fdM ["one","other"] (spMore K))(bM:An K fdM ["one","other"] [])(kM:PySem.W.keepIn K (.ref fM)=true)(mM:mg "is_more"=some (.ref fM))
  (mLi:mg "list"=none)(mR:mg "range"=none)(nB:Num mg "MOST_BELOW" 1000)(n8:Num mg "MOST_FOR_ALL" 8)(nO:Num mg "OUT_OF_RANGE" (-22))(n33:Num mg "NOT_SO" (-33)):Ah P w K mg base CX0 8 f fd ["self","above","below"] (spM P w tb CB C aNeed):=by
 obtain⟨uB,mB,rB⟩:=nB
 obtain⟨u8,m8,r8⟩:=n8
 obtain⟨u22,m22,r22⟩:=nO
 obtain⟨u33,m33,r33⟩:=n33
 refine F.ok scNeed (fun vs H Q E h=>?_) (fun cdv A outer s H vs Q E hr h=>?_)
 ·
  obtain⟨x,dx,ca,ba,as,cl,a,m,rfl,⟨_,_,rfl,_⟩,_⟩:=h
  rfl
 ·
  obtain⟨x,dx,ca,ba,as,cl,a,m,rfl,⟨u,v,rfl,rfl⟩,L,G,hm,k⟩:=h
  have hr1:AM 1 _:=hr.mono (by decide)
  have hr4:AM 4 _:=hr.mono (by decide)
  obtain⟨h2,h4⟩:=okC_len G.ch
  have hg:a.gaps=a.chances.length-1:=rfl
  refine⟨_,Ad (AN (PW.pt (pw_or (AB op_lt (pv 2) Ao (AA _)) (pw_or (AB op_gt (pv 2) (Av rfl mB rB) (AA _)) (pw_or1 (AB op_gt (pv 1) (pv 2) (AA _)))))) (Af (Al (AD (Aa (Av rfl m22 r22) Ac)))) Ax)<|
   Ad (ps_for PassesOwn.never rfl (pi_range2 rfl mR (Aa (AQ (pv 0) CE.cls hR GR hr1 bR .nil Ap) (Aa (AH op_add (Av rfl m8 r8) Ao) Ac))) (Au (i:=3) scNeed.nd rfl (Or.inl rfl))<|
    Af (AN (pt_val (Ay (pv 0) CE.cls hN GN hr4 bN .nil Ap (Aa (pv 3) Ac))) (
     Ad (As (i:=4) scNeed.nd rfl (Or.inl rfl) (Ay (AE (pv 0) rfl) CEB.cls hW GW hr bW .nil Ap (Aa (AE (pv 0) rfl) (Aa (pv 3) Ac))))<|
     Af (AN (pt_not (pt_val (Aw GM hr1 rfl mM kM bM .nil Ap (Aa (A6 (Aa (pv 1) (Aa (pv 2) Ac))) (Aa (Ay (pv 0) CE.cls hL GL hr bL .nil Ap (Aa (pv 4) Ac)) Ac)))))
      (Af (Al (AH op_cat (AD (Aa (pv 3) Ac)) (A2 (r:=rListOf K) AX rfl mLi (by decide +kernel) (Aa (pv 4) Ac))))) Ax)) Ax))<|
   Af (Al (AD (Aa (Av rfl m33 r33) Ac))),?_⟩
  have no:∀(hz:v=0∨1000<v∨v<u),tLst (tCons (tC (.int (-22))) tNil) [] H Q:=fun hz=>by
   refine⟨(by show 1≤sizeLine;decide),fun q hq=>?_⟩
   rw[does_need,if_pos hz] at k
   exact k _ q ca (stp_same L (Ae.upd hq)) (NewL.of hq) Ab
  refine⟨_,rfl,_,_,rfl,rfl,_,rfl,?_⟩
  by_cases e1:((v:Nat):Int)<1
  ·
   rw[decide_eq_true e1]
   refine AY (AY ?_)
   exact no (.inl (by omega))
  ·
   rw[decide_eq_false e1]
   refine A3 ⟨_,rfl,_,_,rfl,rfl,_,rfl,?_⟩
   by_cases e2:(1000:Int)<((v:Nat):Int)
   ·
    rw[decide_eq_true e2]
    refine AY (AY ?_)
    exact no (.inr (.inl (by omega)))
   ·
    rw[decide_eq_false e2]
    refine A3 ⟨_,rfl,_,rfl,_,_,rfl,rfl,_,rfl,?_⟩
    by_cases e3:((v:Nat):Int)<((u:Nat):Int)
    ·
     rw[decide_eq_true e3]
     refine AY ?_
     exact no (.inr (.inr (by omega)))
    ·
     rw[decide_eq_false e3]
     refine A3 ?_
     rw[does_need,if_neg (by omega),need_eq] at k
     have hbigd:(1000:Nat)<2^1200:=by decide +kernel
     refine⟨_,rfl,x,dx,_,rfl,L.ins,rfl,x,dx,ca,ba,a.chances,a.total,rfl,L.shows,by omega,_,_,rfl,rfl,((a.chances.length-1:Nat):Int),8+1,rfl,⟨by omega,by omega,by decide,by decide⟩,?_⟩
     have en:((8:Int)+1-((a.chances.length-1:Nat):Int)).toNat=9-(a.chances.length-1):=by omega
     rw[en]
     refine for_range (n:=9-(a.chances.length-1)) (fun i σ H'=>∃(v3 v4:Option V),σ=[some (.ref x),some (nV u),some (nV v),v3,v4]∧Ak H H'∧Ln P w tb CB x C dx ca ba H' a.chances a.total (m+101*i)∧(((List.range 9).drop a.gaps).take i).find? (needP a u v)=none) ⟨none,none,rfl,Ak.refl _,L,rfl⟩ ?_ ?_
     ·
      rintro i σ H2 hi ⟨v3,v4,rfl,k2,L2',hnf⟩
      have eI:((a.chances.length-1:Nat):Int)+((i:Nat):Int)=((a.chances.length-1+i:Nat):Int):=by omega
      rw[eI]
      have hat:((List.range 9).drop a.gaps)[i]?=some (a.chances.length-1+i):=rooms_at (by omega)
      refine⟨_,rfl,x,dx,_,rfl,L2'.ins,rfl,_,rfl,x,dx,ca,ba,a.chances,a.total,a.chances.length-1+i,rfl,L2'.shows,by omega,h4,fun H3 s3=>⟨_,rfl,?_⟩⟩
      have L3:=L2'.same s3
      generalize hrr:a.chances.length-1+i=r at hat
      have h8:r≤8:=by omega
      cases hz:canB a.chances r with
      |
       false=>
       refine A3 ⟨_,_,rfl,Ak.trans k2 (Ak.of s3),L3.more (by omega),find_miss hat hnf ?_⟩
       have hz':=of_decide_eq_false hz
       have hw:Su112.waysOf a.gaps r=[]:=Classical.byContradiction fun y=>hz' ⟨h8,y⟩
       unfold needP
       rw[hw];rfl
      |
       true=>
       refine AY ?_
       obtain⟨_,z2⟩:=of_decide_eq_true hz
       obtain⟨bx,db,kvs,hins,_⟩:=L3.bo.ex
       refine⟨_,rfl,x,C,dx,_,_,rfl,L3.ins,CE.cls,CE.nB,rfl,ba,bx,_,rfl,hins,rfl,_,rfl,x,C,dx,_,_,rfl,L3.ins,CE.cls,CE.nC,rfl,_,rfl,ba,ca,a.chances,r,m+101*i,rfl,L3.bo,L3.ch,G.ch,h8,z2,by omega,fun H4 wa k4 B4 st4=>?_⟩
       have L4:=L3.keep k4 B4
       have fm:Fine a.chances (Su112.most a.chances (Su112.waysOf (a.chances.length-1) r)):=fine_of G.ch h8 (most_mem _ _ z2)
       refine⟨_,rfl,_,rfl,(by show 2≤sizeLine;decide),fun t ht=>?_⟩
       have s5:=Ae.upd (o:=.tup [nV u,nV v]) ht
       have L5:=L4.same s5
       refine⟨_,rfl,x,dx,_,rfl,L5.ins,rfl,_,rfl,x,wa,dx,ca,ba,a.chances,_,a.total,m+101*i+100,rfl,L5,.inr (s5 _ _ st4),fm,by omega,fun H6 p6 k6 L6 fr6 sm6=>?_⟩
       refine⟨t,p6,(((u:Nat):Int),v),Su112.rate a.chances (Su112.most a.chances (Su112.waysOf (a.chances.length-1) r)),rfl,SqT.of (k6.tup Ab),SqT.of fr6,by show ((u:Nat):Int).natAbs<_;rw[Int.natAbs_natCast];omega,by show v<_;omega,sm6.wide.1,sm6.wide.2,_,rfl,?_⟩
       have hll:=less_low (x:=u) (y:=v) (fine_canon fm).1 (by omega)
       have k26:=Ak.trans k2 (Ak.trans (Ak.of s3) (Ak.trans k4 (Ak.trans (Ak.of s5) k6)))
       have ep:needP a u v r=!(Su111.less (Su112.rate a.chances (Su112.most a.chances (Su112.waysOf (a.chances.length-1) r))) (((u:Nat):Int),v)):=by
        unfold needP
        rw[hg,hll]
        have:(Su112.waysOf (a.chances.length-1) r !=[])=true:=bne_iff_ne.mpr z2
        rw[this,Bool.true_and]
       cases hy:Su111.less (Su112.rate a.chances (Su112.most a.chances (Su112.waysOf (a.chances.length-1) r))) (((u:Nat):Int),v) with
       |
        true=>
        refine A3 ⟨_,_,rfl,k26,L6.more (by omega),find_miss hat hnf ?_⟩
        rw[ep,hy];rfl
       |
        false=>
        refine AY ?_
        rw[find_hit hat hnf (by rw[ep,hy];rfl)] at k
        dsimp only at k
        have st6:AR H6 wa (Su112.most a.chances (Su112.waysOf (a.chances.length-1) r)):=k6.tup (s5 _ _ st4)
        have hlc:=fm.lens
        refine⟨_,rfl,(by show 1≤sizeLine;decide),fun l1 hl1=>?_⟩
        have s7:=Ae.upd (o:=.lst [nV r]) hl1
        refine⟨_,rfl,wa,_,rfl,.inr (SqT.of (s7 _ _ st6)),fun l2 hl2=>?_⟩
        have s8:=Ae.upd (o:=.lst ((Su112.most a.chances (Su112.waysOf (a.chances.length-1) r)).map nV)) hl2
        refine⟨l1,l2,_,_,rfl,rfl,s8 _ _ Ab,Ab,(by rw[List.length_map];exact Nat.le_of_lt (AC (by show 1+(Su112.most a.chances (Su112.waysOf (a.chances.length-1) r)).length≤1000;omega))),fun l3 hl3=>?_⟩
        have s9:=Ae.upd (o:=.lst ([nV r]++(Su112.most a.chances (Su112.waysOf (a.chances.length-1) r)).map nV)) hl3
        have kA:=Ak.trans k26 (Ak.of (Ae.trans s7 s8))
        refine k _ l3 ca (stp_keep (Ak.trans kA (Ak.of s9)) (L6.same (Ae.trans s7 (Ae.trans s8 s9))) (by omega)) ((NewL.of hl3).keep kA) ?_
        rw[Ab]
        have e:ansL (Su112.num r (Su112.nats (Su112.most a.chances (Su112.waysOf (a.chances.length-1) r))))=[nV r]++(Su112.most a.chances (Su112.waysOf (a.chances.length-1) r)).map nV:=by
         unfold ansL Su112.num Su112.nats Su112.nat
         rw[List.map_cons,List.map_map];rfl
        show _=some (HO.lst (ansL (Su112.num r (Su112.nats (Su112.most a.chances (Su112.waysOf (a.chances.length-1) r))))))
        rw[e];rfl
     ·
      rintro σ H2 ⟨v3,v4,rfl,k2,L2',hnf⟩
      have hall:((List.range 9).drop a.gaps).take (9-(a.chances.length-1))=(List.range 9).drop a.gaps:=by
       apply List.take_of_length_le
       rw[List.length_drop,List.length_range];omega
      rw[hall] at hnf
      rw[hnf] at k
      dsimp only at k
      refine⟨(by show 1≤sizeLine;decide),fun q hq=>?_⟩
      exact k _ q ca (stp_keep (Ak.trans k2 (Ak.of (Ae.upd hq))) (L2'.same (Ae.upd hq)) (by omega)) ((NewL.of hq).keep k2) Ab
end
end Wk
namespace PySem
open Sem (wp)
namespace F
theorem rev_no_len:typeLookup (.type "list_reverseiterator") "__len__"=pure none:=by rw[typeLookup_type,builtinLookup_eq_fast];kernel_rfl
theorem rev_hint:typeLookup (.type "list_reverseiterator") "__length_hint__"=pure (some (.builtin "list_reverseiterator.__length_hint__")):=by rw[typeLookup_type,builtinLookup_eq_fast];kernel_rfl
end F
section
variable {prog:Program}{w:World}{A:Around}{E:Value→Shared→Prop}{s:Shared}
theorem hint_rev {it:Addr}{Q:Bool→Shared→Prop}(ty:s.TypeIs (.ref it) "list_reverseiterator")(q:Q false s):wpAny (model prog w) A (Builtin.List.listLengthHint (.ref it)) Q E s:=by
 unfold Builtin.List.listLengthHint
 refine wpAny_bind (wpAny_specialOf ty F.rev_no_len ?_)
 show wpAny _ A (specialOf (Value.ref it) (Str.ofString "__length_hint__")>>= _) _ _ _
 refine wpAny_bind (wpAny_specialOf ty F.rev_hint ?_)
 generalize hnm:("list_reverseiterator.__length_hint__":String)=nm
 wp_delta
 rw[show splitId nm=some ("list_reverseiterator","__length_hint__") from by subst hnm;decide +kernel]
 subst hnm
 refine wpAny_bind (wpAny_isInstance (T:="list_reverseiterator") (b:=true) ty (by rw[isSubtype_type];kernel_rfl) ?_)
 refine wpAny_ite_split (fun z=>absurd z (by decide)) (fun _=>?_)
 refine wpAny_ite_split (fun _=>?_) (fun z=>absurd rfl z)
 refine wpAny_ite_split (fun z=>absurd z (by decide +kernel)) (fun _=>?_)
 exact wpAny_pure q
theorem extend_rev {R:Result→Shared→Prop}{it l S:Addr}{vs:Array Value}(res:Value)(k0:Nat)(nh:A.handled=none)(sz:vs.size≤sizeLine)(hit:s.heap.IsRevIter it l ((vs.size:Int)-1))(hl:s.heap.IsList l vs)(n1:l≠it)(n2:S≠it)(n3:S≠l)
  (at_:s.heap.get? S=some {cls:=.type "list",data:=.seq #[] k0})
  (hR:∀h' tk acc c',(∀b o,b≠S→b≠it→s.heap.get? b=some o→h'.get? b=some o)→h'.get? S=some {cls:=.type "list",dict:=none,data:=.seq acc c',slots:=#[]}→
   ItemsOf (fun i v=>vs[vs.size-1-i]?=some v) acc vs.size→R (.ok (.ret res)) {s with heap:=h',toks:=tk}):
  wpAny (model prog w) A.in1 (Builtin.List.listExtendWith (.ref S) (.ref it) res)
   (fun z u=>match z with
    | .done f=>R (.ok f) u
    | .again c'=>c'.quiet=true∧codeAny (model prog w) A c' R u) (fun e u=>R (.error e) u) s:=by
 have W:=(Walks.listRev (prog:=prog) (w:=w) (A:=A.in1) nh it l n1 vs).toS
 have off:S∉[it,l]:=fun z=>by
  rcases List.mem_cons.mp z with e | e
  ·
   exact n2 e
  ·
   exact n3 (List.mem_singleton.mp e)
 have ty:=hit.typeIs
 unfold Builtin.List.listExtendWith
 refine wpAny_bind (wpAny_typeOf (T:="list_reverseiterator") ty ?_)
 have e1:Builtin.List.listSameRef (.ref S) (.ref it)=false:=by simp[Builtin.List.listSameRef,n2]
 have e2:(Value.type "list_reverseiterator"==Value.type "list")=false:=by decide
 have e3:(Value.type "list_reverseiterator"==Value.type "tuple")=false:=by decide
 simp only[e1,e2,e3,Bool.or_false,Bool.false_eq_true,if_false]
 refine wpAny_bind (wpAny_pyIter_revIter hit ?_)
 refine wpAny_bind (wpAny_holding (hint_rev ty ?_))
 refine wpAny_ite_split (fun z=>absurd z (by decide +kernel)) (fun _=>?_)
 refine wpAny_pure ⟨plainId_quiet F.plain_extend_loop _,codeAny_extend_loopS W sz S off res vs.size 0 s #[] k0 rfl (Nat.zero_le _) ⟨Nat.zero_le _,by simpa using hit,hl⟩ at_ (ItemsOf.nil _) fun u acc c' mv hS hacc=>?_⟩
 rw[Moved.eq_with mv]
 refine hR u.heap u.toks acc c' (fun b o h1 h2 e=>mv.heap b o (fun z=>?_) e) hS hacc
 rcases List.mem_cons.mp z with e | e
 ·
  exact h1 e
 ·
  exact h2 (List.mem_singleton.mp e)
theorem init_rev {R:Result→Shared→Prop}{it l S:Addr}{vs:Array Value}(nh:A.handled=none)(sz:vs.size≤sizeLine)(hit:s.heap.IsRevIter it l ((vs.size:Int)-1))(hl:s.heap.IsList l vs)(n1:l≠it)(n2:S≠it)(n3:S≠l)
  (at_:s.heap.get? S=some {cls:=.type "list",data:=.seq #[]})
  (hR:∀h' tk acc c',(∀b o,b≠S→b≠it→s.heap.get? b=some o→h'.get? b=some o)→h'.get? S=some {cls:=.type "list",dict:=none,data:=.seq acc c',slots:=#[]}→
   ItemsOf (fun i v=>vs[vs.size-1-i]?=some v) acc vs.size→R (.ok (.ret .none)) {s with heap:=h',toks:=tk}):
  wpAny (model prog w) A.in1 (Builtin.«list.__init__» ⟨[.ref S,.ref it],[]⟩)
   (fun z u=>match z with
    | .done f=>R (.ok f) u
    | .again c'=>c'.quiet=true∧codeAny (model prog w) A c' R u) (fun e u=>R (.error e) u) s:=by
 show wpAny _ _ (do
  let had←Builtin.List.listItems (.ref S)
  Builtin.List.listUpdate (.ref S) (fun _=>#[])
  letGo had.toList.reverse
  Builtin.List.listExtendWith (.ref S) (.ref it) .none) _ _ s
 refine wpAny_bind ?_
 unfold Builtin.List.listItems
 refine wpAny_bind (wpAny_seqItems at_ rfl (wpAny_pure ?_))
 show wpAny _ _ (updateSeq S (fun _=>#[])>>= fun _=>letGo (#[]:Array Value).toList.reverse>>= fun _=>
  Builtin.List.listExtendWith (.ref S) (.ref it) .none) _ _ s
 refine wpAny_bind (wpAny_updateSeq at_ rfl ?_)
 have at2:=Heap.get?_update_self (Obj.mapSeq (fun _=>(#[]:Array Value))) at_ rfl
 have keep:∀b o,b≠S→s.heap.get? b=some o→(s.heap.update S (Obj.mapSeq (fun _=>(#[]:Array Value)))).get? b=some o:=fun b o hb e=>
  (Heap.get?_update_other _ _ (Ne.symm hb)).trans e
 refine wpAny_bind (wpAny_letGo ?_)
 refine extend_rev .none _ nh sz (hit.at fun o e=>keep _ o (Ne.symm n2) e) (hl.at fun o e=>keep _ o (Ne.symm n3) e) n1 n2 n3 at2 fun h' tk acc c' kp hS hacc=>?_
 exact hR h' tk acc c' (fun b o h1 h2 e=>kp b o h1 h2 (keep b o h1 e)) hS hacc
theorem call_list_rev {Q:Value→Shared→Prop}{it l:Addr}{vs:Array Value}(nh:A.handled=none)(sz:vs.size≤sizeLine)(hit:s.heap.IsRevIter it l ((vs.size:Int)-1))(hl:s.heap.IsList l vs)(n1:l≠it)
  (hQ:∀h' tk acc c',(∀b o,b≠it→s.heap.get? b=some o→h'.get? b=some o)→h'.get? s.heap.objs.size=some {cls:=.type "list",dict:=none,data:=.seq acc c',slots:=#[]}→
   ItemsOf (fun i v=>vs[vs.size-1-i]?=some v) acc vs.size→Q (.ref s.heap.objs.size) {s with heap:=h',toks:=tk}):
  wpAny (model prog w) A (call (.type "list") [.ref it]) Q E s:=by
 refine callType_codes (Q₁:=fun obj u=>obj=.ref s.heap.objs.size∧u={s with heap:=s.heap.push {cls:=.type "list",data:=.seq #[]}}) F.called_list (F.typeCall_list_1 _) F.entry_list_init
  (code_list_new _ ⟨rfl,rfl⟩) fun obj u z=>?_
 obtain⟨rfl,rfl⟩:=z
 have at_:(s.heap.push {cls:=.type "list",data:=.seq #[]}).get? s.heap.objs.size=some {cls:=.type "list",data:=.seq #[]}:=Heap.get?_push_size _ rfl
 have l1:it<s.heap.objs.size:=by obtain⟨_,e,_⟩:=hit;exact Heap.lt_size e
 have l2:l<s.heap.objs.size:=by obtain⟨_,e,_⟩:=hl;exact Heap.lt_size e
 refine⟨⟨_,at_,rfl⟩,F.args_list_init_2 _ _,init_rev (A:=A.in1) nh sz (hit.at fun o e=>Heap.get?_push_of_some _ e) (hl.at fun o e=>Heap.get?_push_of_some _ e) n1 (Ne.symm (Nat.ne_of_lt l1)) (Ne.symm (Nat.ne_of_lt l2)) at_ fun h' tk acc c' kp hS hacc=>?_⟩
 exact⟨rfl,hQ h' tk acc c' (fun b o h1 e=>kp b o (Nat.ne_of_lt (Heap.lt_size e)) h1 (Heap.get?_push_of_some _ e)) hS hacc⟩
theorem items_rev {vs acc:List Value}(h:ItemsOf (fun i v=>vs.toArray[vs.toArray.size-1-i]?=some v) acc.toArray vs.toArray.size):acc=vs.reverse:=by
 obtain⟨h1,h2⟩:=h
 have h1':acc.length=vs.length:=by simpa using h1
 apply List.ext_getElem?
 intro i
 by_cases hi:i<acc.length
 ·
  have e:=h2 i (acc[i]) (by simp[hi])
  rw[List.getElem?_eq_getElem hi,List.getElem?_reverse (by omega)]
  simpa using e.symm
 ·
  rw[List.getElem?_eq_none (by omega),List.getElem?_eq_none (by rw[List.length_reverse];omega)]
end
end PySem
namespace L2
open PySem PySem.Spec PyProof.Rows
theorem vals_rev:∀{vs:List V} {us:List Value},AG vs us→AG vs.reverse us.reverse
 | _,_,.nil=>.nil
 |
  _,_,.cons r rs=>by
  rw[List.reverse_cons,List.reverse_cons]
  exact (vals_rev rs).append (.cons r .nil)
def tListRev (K:PySem.W.Frag)(ta:TA):TE:=fun σ H Q=>ta σ H fun vs H1=>∃(a:Addr) (xs:List V),vs=[.ref a]∧SqL K H1 a xs∧∀p,H1 p=none→Q (.ref p) (upd H1 p (.lst xs.reverse))
section
variable {X:Cx}
theorem pe_listRev {e:Expr}{ta:TA}{p p2 pos pos2:Pos}(hc:X.calm=true)(hg:Gl X "list")(hm:X.mg "list"=none)(hg2:Gl X "reversed")(hm2:X.mg "reversed"=none)(ha:PA X [e] ta)
  (hs:starEach [e] X.env=[(false,eval e X.env)]:=by rfl)(hs2:starEach [.Call (.Name "reversed" p2) [e] [] pos2] X.env=[(false,eval (.Call (.Name "reversed" p2) [e] [] pos2) X.env)]:=by rfl):
  PE X (.Call (.Name "list" p) [.Call (.Name "reversed" p2) [e] [] pos2] [] pos) (tListRev X.K ta):=by
 intro pins s σ H Q I h
 refine wpAny_Call_Name_kw (ld_blt I hg hm boot_list ?_)
 refine PyProof.Rows.callWith_type1 ?_ hs2 rfl
 rw[hs2]
 show wpAny _ _ (spliced ((false,eval (.Call (.Name "reversed" p2) [e] [] pos2) X.env)::[])) _ _ s
 refine Calls.spliced_cons ?_
 refine wpAny_Call_Name_kw (ld_blt I hg2 hm2 boot_reversed5 ?_)
 refine PyProof.Rows.callWith_type1 (thn (ha pos2 pins s σ H _ I h) fun us s1 z=>?_) hs rfl
 obtain⟨vs,H1,I1,r1,a,xs,ev,hq,q⟩:=z
 subst ev
 cases r1 with
 |
  cons r rr=>
  cases rr
  cases r
  obtain⟨its,rv,pl,hz⟩:=I1.list hq
  have hlen:=rv.length
  refine call_reversed_list pl.isList ?_
  refine Calls.spliced_nil ?_
  have hal:a<s1.heap.objs.size:=by obtain⟨_,z,_⟩:=pl.isList;exact Heap.lt_size z
  have sz:its.toArray.size≤sizeLine:=by simp only[List.size_toArray];omega
  refine call_list_rev (it:=s1.heap.objs.size) (l:=a) (vs:=its.toArray) (I1.ok.hd hc) sz ⟨_,Heap.get?_push_size _ rfl,rfl,rfl⟩ (pl.isList.at fun o z=>Heap.get?_push_of_some _ z) (Nat.ne_of_lt hal) fun h' tk acc c' kp hS hacc=>?_
  obtain⟨acc⟩:=acc
  have ea:=items_rev hacc
  subst ea
  have hsz:s1.heap.objs.size≤(s1.heap.push (revObj a ((its.toArray.size:Int)-1))).objs.size:=by
   show _≤(s1.heap.objs.push _).size
   rw[Array.size_push];omega
  refine⟨.ref _,_,I1.laid (t':=tk) (fun b o z=>kp b o (Nat.ne_of_lt (Heap.lt_size z)) (Heap.get?_push_of_some _ z)) hsz (show ObjOk X.prog X.w _ h' _ (.lst xs.reverse) from ⟨by rw[List.length_reverse];exact hz,its.reverse,c',vals_rev rv,hS⟩),rfl,q _ (I1.hok.fresh hsz)⟩
end
end L2
namespace Rb
theorem okC_rev {c:List Nat}(h:Su112.okC c=true):Su112.okC c.reverse=true:=by
 unfold Su112.okC at h ⊢
 rw[List.length_reverse,List.all_reverse];exact h
end Rb
namespace Wk
open PySem PySem.Spec PyProof.Rows L2 Rb
abbrev sTurn:Stmt:=mth "turn"
abbrev sTurned:Stmt:=mth "turned"
section
variable {P:Program}{w:World}{K:PySem.W.Frag}{mg:Str→Option Value}{base:Heap}
def aTurn:List V→Su112.Call→Hp→Prop:=fun as cl _=>as=[]∧cl=.turn
theorem scTurn:Aq ["self"] ["self"] (Ag sTurn):=⟨rfl,rfl,rfl,by decide +kernel,rfl,by decide +kernel,by decide +kernel⟩
theorem ok_turn {f C CB tb:Addr}{fd:FuncData}(F:Fun K "turn" "Line.turn" sTurn f fd)(CE:AO K C)(mLi:mg "list"=none)(mRv:mg "reversed"=none)(mL:mg "len"=none):Ah P w K mg base CX0 1 f fd ["self"] (spM P w tb CB C aTurn):=by
 refine F.ok scTurn (fun vs H Q E h=>?_) (fun cdv A outer s H vs Q E hr h=>?_)
 ·
  obtain⟨x,dx,ca,ba,as,cl,a,m,rfl,⟨rfl,_⟩,_⟩:=h
  rfl
 ·
  obtain⟨x,dx,ca,ba,as,cl,a,m,rfl,⟨rfl,rfl⟩,L,G,hm,k⟩:=h
  refine⟨_,Ad (ps_fld (pv 0) (pe_listRev rfl rfl mLi rfl mRv (Aa (AE (pv 0) rfl) Ac)) rfl)<|
   Af (Al (AD (Aa (Az (r:=rLenA K) At rfl mL PySem.boot_len (Aa (AE (pv 0) rfl) Ac)) Ac))),?_⟩
  refine⟨_,rfl,x,C,dx,_,_,rfl,L.ins,CE.cls,CE.nC,rfl,ca,_,rfl,SqL.of L.ch,fun ca' hca=>?_⟩
  have er:(a.chances.map nV).reverse=a.chances.reverse.map nV:=(List.map_reverse ..).symm
  rw[er]
  have s2:Ae H (upd H ca' (.lst (a.chances.reverse.map nV))):=Ae.upd hca
  have L2':=L.same s2
  refine⟨_,rfl,x,C,dx,_,rfl,L2'.ins,CE.cls,CE.nC,(by show 3<1000;decide),?_⟩
  rw[put_ch]
  have L3:=Ln.put (n':=a.total) L2' (ca':=ca') (c':=a.chances.reverse) Ab
  refine⟨_,rfl,x,C,dx,_,_,rfl,L3.ins,CE.cls,CE.nC,rfl,ca',_,rfl,.inl (SqL.of L3.ch),(by show 1≤sizeLine;decide),fun p hp=>?_⟩
  rw[List.length_map,List.length_reverse]
  have hpx:p≠x:=fun z=>by rw[z,Ab] at hp;cases hp
  have hp2:(upd H ca' (.lst (a.chances.reverse.map nV))) p=none:=by rw[Ai hpx] at hp;exact hp
  refine k _ p ca' ⟨(L3.same (Ae.upd hp)).more (by omega),fun b o e hb _ _ _=>?_,.inr hca⟩ (NewL.of (s2.free hp2)) Ab
  rw[Ai (Aj (s2 _ _ e) hp2),Ai hb]
  exact s2 _ _ e
def aTurned:List V→Su112.Call→Hp→Prop:=fun as cl _=>as=[]∧cl=.turned
theorem scTurned:Aq ["self","chances"] ["self"] (Ag sTurned):=⟨rfl,rfl,rfl,by decide +kernel,rfl,by decide +kernel,by decide +kernel⟩
theorem ok_turned {f C CB tb fT fB:Addr}{fd fdT fdB:FuncData}(F:Fun K "turned" "Line.turned" sTurned f fd)(CE:AO K C)(CEB:ClsEnvB K CB)(hT:AT K C "way_told" fT)(GT:Ah P w K mg base CX0 7 fT fdT ["self","chances","way"] (spTold P w K tb CB C))(bT:An K fdT ["self","chances","way"] [])
  (hB:AT K CB "best_way" fB)(GB:Ah P w K mg base CX0 7 fB fdB ["self","chances","room"] (spBW P w tb CB Su112.most))(bB:An K fdB ["self","chances","room"] [])(mLi:mg "list"=none)(mRv:mg "reversed"=none):Ah P w K mg base CX0 8 f fd ["self"] (spM P w tb CB C aTurned):=by
 refine F.ok scTurned (fun vs H Q E h=>?_) (fun cdv A outer s H vs Q E hr h=>?_)
 ·
  obtain⟨x,dx,ca,ba,as,cl,a,m,rfl,⟨rfl,_⟩,_⟩:=h
  rfl
 ·
  obtain⟨x,dx,ca,ba,as,cl,a,m,rfl,⟨rfl,rfl⟩,L,G,hm,k⟩:=h
  refine⟨_,Ad (As (i:=1) scTurned.nd rfl (Or.inl rfl) (pe_listRev rfl rfl mLi rfl mRv (Aa (AE (pv 0) rfl) Ac)))<|
   Af (Al (Ay (pv 0) CE.cls hT GT hr bT .nil Ap (Aa (pv 1) (Aa (Ay (AE (pv 0) rfl) CEB.cls hB GB hr bB .nil Ap (Aa (pv 1) (Aa (AE (pv 0) rfl) Ac))) Ac)))),?_⟩
  refine⟨_,rfl,x,C,dx,_,_,rfl,L.ins,CE.cls,CE.nC,rfl,ca,_,rfl,SqL.of L.ch,fun da hda=>?_⟩
  have er:(a.chances.map nV).reverse=a.chances.reverse.map nV:=(List.map_reverse ..).symm
  rw[er]
  have s1:Ae H (upd H da (.lst (a.chances.reverse.map nV))):=Ae.upd hda
  have at1:(upd H da (.lst (a.chances.reverse.map nV))) da=some (.lst (a.chances.reverse.map nV)):=Ab
  have L1:=L.same s1
  have ok':=okC_rev G.ch
  have hne:Su112.waysOf (a.chances.reverse.length-1) a.total≠[]:=by rw[List.length_reverse];exact G.some_
  obtain⟨bx,db,kvs,hins,_⟩:=L1.bo.ex
  refine⟨_,rfl,x,dx,_,rfl,L1.ins,rfl,_,rfl,_,rfl,x,C,dx,_,_,rfl,L1.ins,CE.cls,CE.nB,rfl,ba,bx,_,rfl,hins,rfl,_,rfl,_,rfl,x,C,dx,_,_,rfl,L1.ins,CE.cls,CE.nR,rfl,
   ba,da,a.chances.reverse,a.total,m,rfl,L1.bo,at1,ok',G.top,hne,by omega,fun H2 p k2 B2 st=>?_⟩
  have L2':=L1.keep k2 B2
  have hmem:=most_mem a.chances.reverse (Su112.waysOf (a.chances.reverse.length-1) a.total) hne
  have hF:=fine_of ok' G.top hmem
  refine⟨x,p,da,dx,ca,ba,a.chances,a.chances.reverse,_,a.total,m+100,rfl,L2',k2.lst at1,.inr st,hF,by omega,fun H3 q k3 L3 nl at3=>?_⟩
  have kA:=Ak.trans (Ak.of s1) k2
  refine k H3 q ca (stp_keep (Ak.trans kA k3) L3 (by omega)) (nl.keep kA) ?_
  rw[at3]
  have e:(Su112.most a.chances.reverse (Su112.waysOf (a.chances.reverse.length-1) a.total)).length=a.gaps:=by
   have h1:=hF.lens
   rw[List.length_reverse] at h1
   show _=a.chances.length-1
   rw[List.length_reverse];omega
  rw[e]
  rfl
end
end Wk
namespace Wk
open PySem PySem.Spec PyProof.Rows L2 Rb
abbrev sChange:Stmt:=top 67
abbrev sOfWays:Stmt:=top 68
abbrev sWhatIf:Stmt:=top 69
abbrev sOfMach:Stmt:=top 70
inductive IsCall:Int→List Nat→Su112.Call→Prop
 | c0 (l:List Nat):IsCall 0 l (.begin_ l)
 | c1 (n:Nat):IsCall 1 [n] (.total n)
 | c2 (i p:Nat):IsCall 2 [i,p] (.chance i p)
 | c3 (i j:Nat):IsCall 3 [i,j] (.swap i j)
 | c4:IsCall 4 [] .turn
 | c5:IsCall 5 [] .best
 | c6:IsCall 6 [] .worst
 | c7:IsCall 7 [] .ways
 | c8 (l:List Nat):IsCall 8 l (.of l)
 | c9 (l:List Nat):IsCall 9 l (.place l)
 | c10:IsCall 10 [] .worth
 | c11 (x y:Nat):IsCall 11 [x,y] (.need x y)
 | c12 (l:List Nat):IsCall 12 l (.order l)
 | c13:IsCall 13 [] .turned
 | c14:IsCall 14 [] .bound
 | c15 (i:Nat):IsCall 15 [i] (.gain i)
 | c16:IsCall 16 [] .neck
 | c17:IsCall 17 [] .state
theorem eT {b:Bool}{p q:Prop}(h:b=true)(x:p):if b=true then p else q:=by rw[if_pos h];exact x
theorem eF {b:Bool}{p q:Prop}(h:b=false)(x:q):if b=true then p else q:=by rw[if_neg (by rw[h];decide)];exact x
section
variable {P:Program}{w:World}{K:PySem.W.Frag}{mg:Str→Option Value}{base:Heap}
def spAns (P:Program)(w:World)(tb CB C:Addr)(lo hi:Int):Sp:=fun vs H Q _=>∃(x ga dx ca ba:Addr) (p:Int) (l:List Nat) (cl:Su112.Call) (a:Su112.Abs) (m:Nat),vs=[.ref x,.int p,.ref ga]∧H ga=some (.lst (l.map nV))∧l.length≤6∧IsCall p l cl∧lo≤p∧p≤hi∧Ln P w tb CB x C dx ca ba H a.chances a.total m∧Good a∧m<9000000∧
 ∀(H':Hp) (q ca':Addr),Stp P w tb CB x C dx ca ba H H' ca' (Su112.does a cl).1.chances (Su112.does a cl).1.total (m+1000)→NewL H q→H' q=some (.lst (ansL (Su112.does a cl).2))→Q (.ref q) H'
theorem scChange:Aq ["line","number","given"] ["line","number","given"] (Ag sChange):=⟨rfl,rfl,rfl,by decide +kernel,rfl,by decide +kernel,by decide +kernel⟩
theorem ok_Change {f C CB tb f0 f1 f2 f3:Addr}{fd d0 d1 d2 d3:FuncData}(F:Fun K "answer_change" "answer_change" sChange f fd)(CE:AO K C)
  (h0:AT K C "total" f0)(G0:Ah P w K mg base CX0 5 f0 d0 ["self","room"] (spM P w tb CB C aTotal))(b0:An K d0 ["self","room"] [])
  (h1:AT K C "chance" f1)(G1:Ah P w K mg base CX0 2 f1 d1 ["self","machine","tenths"] (spM P w tb CB C aChance))(b1:An K d1 ["self","machine","tenths"] [])
  (h2:AT K C "swap" f2)(G2:Ah P w K mg base CX0 2 f2 d2 ["self","machine","another"] (spM P w tb CB C aSwap))(b2:An K d2 ["self","machine","another"] [])
  (h3:AT K C "turn" f3)(G3:Ah P w K mg base CX0 1 f3 d3 ["self"] (spM P w tb CB C aTurn))(b3:An K d3 ["self"] [])
  (n0:Num mg "TOTAL" 1)(n1:Num mg "CHANCE" 2)(n2:Num mg "SWAP" 3):
  Ah P w K mg base CX0 6 f fd ["line","number","given"] (spAns P w tb CB C 1 4):=by
 obtain⟨u0,m0,r0⟩:=n0
 obtain⟨u1,m1,r1⟩:=n1
 obtain⟨u2,m2,r2⟩:=n2
 refine F.ok scChange (fun vs H Q E h=>?_) (fun cdv A outer s H vs Q E hr h=>?_)
 ·
  obtain⟨x,ga,dx,ca,ba,p,l,cl,a,m,rfl,_⟩:=h
  rfl
 ·
  obtain⟨x,ga,dx,ca,ba,p,l,cl,a,m,rfl,hga,h6,hcl,hlo,hhi,L,G,hm,k⟩:=h
  have hr1:AM 1 _:=hr.mono (by decide)
  have hr2:AM 2 _:=hr.mono (by decide)
  refine⟨_,Ad (AN (AB op_eq (pv 1) (Av rfl m0 r0) (AA _)) (Af (Al (Ay (pv 0) CE.cls h0 G0 hr b0 .nil Ap (Aa (AK AI (pv 2) Ao (fun _ _=>rfl)) Ac)))) Ax)<|
   Ad (AN (AB op_eq (pv 1) (Av rfl m1 r1) (AA _)) (Af (Al (Ay (pv 0) CE.cls h1 G1 hr2 b1 .nil Ap (Aa (AK AI (pv 2) Ao (fun _ _=>rfl)) (Aa (AK AI (pv 2) Ao (fun _ _=>rfl)) Ac))))) Ax)<|
   Ad (AN (AB op_eq (pv 1) (Av rfl m2 r2) (AA _)) (Af (Al (Ay (pv 0) CE.cls h2 G2 hr2 b2 .nil Ap (Aa (AK AI (pv 2) Ao (fun _ _=>rfl)) (Aa (AK AI (pv 2) Ao (fun _ _=>rfl)) Ac))))) Ax)<|
   Af (Al (AQ (pv 0) CE.cls h3 G3 hr1 b3 .nil Ap)),?_⟩
  cases hcl
  all_goals first
   | exact absurd hlo (by decide)
   | exact absurd hhi (by decide)
   | skip
  ·
   rename_i n1
   exact⟨_,rfl,rfl,_,rfl,eT rfl ⟨_,rfl,x,dx,_,rfl,L.ins,rfl,_,rfl,ga,_,_,_,rfl,rfl,SqL.of hga,rfl,x,dx,ca,ba,[nV n1],_,a,m,rfl,⟨_,rfl,rfl⟩,L,G,hm,k⟩⟩
  ·
   rename_i n1 n2
   exact⟨_,rfl,rfl,_,rfl,eF rfl ⟨_,rfl,rfl,_,rfl,eT rfl ⟨_,rfl,x,dx,_,rfl,L.ins,rfl,_,rfl,ga,_,_,_,rfl,rfl,SqL.of hga,rfl,_,rfl,ga,_,_,_,rfl,rfl,SqL.of hga,rfl,x,dx,ca,ba,[nV n1,nV n2],_,a,m,rfl,⟨_,_,rfl,rfl⟩,L,G,hm,k⟩⟩⟩
  ·
   rename_i n1 n2
   exact⟨_,rfl,rfl,_,rfl,eF rfl ⟨_,rfl,rfl,_,rfl,eF rfl ⟨_,rfl,rfl,_,rfl,eT rfl ⟨_,rfl,x,dx,_,rfl,L.ins,rfl,_,rfl,ga,_,_,_,rfl,rfl,SqL.of hga,rfl,_,rfl,ga,_,_,_,rfl,rfl,SqL.of hga,rfl,x,dx,ca,ba,[nV n1,nV n2],_,a,m,rfl,⟨_,_,rfl,rfl⟩,L,G,hm,k⟩⟩⟩⟩
  ·
   exact⟨_,rfl,rfl,_,rfl,eF rfl ⟨_,rfl,rfl,_,rfl,eF rfl ⟨_,rfl,rfl,_,rfl,eF rfl ⟨_,rfl,x,dx,_,rfl,L.ins,rfl,x,dx,ca,ba,[],_,a,m,rfl,⟨rfl,rfl⟩,L,G,hm,k⟩⟩⟩⟩
theorem scOfWays:Aq ["line","number","given"] ["line","number","given"] (Ag sOfWays):=⟨rfl,rfl,rfl,by decide +kernel,rfl,by decide +kernel,by decide +kernel⟩
theorem ok_OfWays {f C CB tb f0 f1 f2 f3 f4:Addr}{fd d0 d1 d2 d3 d4:FuncData}(F:Fun K "answer_of_ways" "answer_of_ways" sOfWays f fd)(CE:AO K C)
  (h0:AT K C "best" f0)(G0:Ah P w K mg base CX0 9 f0 d0 ["self"] (spM P w tb CB C aBest))(b0:An K d0 ["self"] [])
  (h1:AT K C "worst" f1)(G1:Ah P w K mg base CX0 9 f1 d1 ["self"] (spM P w tb CB C aWorst))(b1:An K d1 ["self"] [])
  (h2:AT K C "ways" f2)(G2:Ah P w K mg base CX0 9 f2 d2 ["self"] (spM P w tb CB C aWays))(b2:An K d2 ["self"] [])
  (h3:AT K C "of" f3)(G3:Ah P w K mg base CX0 8 f3 d3 ["self","way"] (spM P w tb CB C (aOf K)))(b3:An K d3 ["self","way"] [])
  (h4:AT K C "place" f4)(G4:Ah P w K mg base CX0 8 f4 d4 ["self","way"] (spM P w tb CB C (aPlace K)))(b4:An K d4 ["self","way"] [])
  (n0:Num mg "BEST" 5)(n1:Num mg "WORST" 6)(n2:Num mg "WAYS" 7)(n3:Num mg "OF" 8):
  Ah P w K mg base CX0 10 f fd ["line","number","given"] (spAns P w tb CB C 5 9):=by
 obtain⟨u0,m0,r0⟩:=n0
 obtain⟨u1,m1,r1⟩:=n1
 obtain⟨u2,m2,r2⟩:=n2
 obtain⟨u3,m3,r3⟩:=n3
 refine F.ok scOfWays (fun vs H Q E h=>?_) (fun cdv A outer s H vs Q E hr h=>?_)
 ·
  obtain⟨x,ga,dx,ca,ba,p,l,cl,a,m,rfl,_⟩:=h
  rfl
 ·
  obtain⟨x,ga,dx,ca,ba,p,l,cl,a,m,rfl,hga,h6,hcl,hlo,hhi,L,G,hm,k⟩:=h
  have hr8:AM 8 _:=hr.mono (by decide)
  refine⟨_,Ad (AN (AB op_eq (pv 1) (Av rfl m0 r0) (AA _)) (Af (Al (AQ (pv 0) CE.cls h0 G0 hr b0 .nil Ap))) Ax)<|
   Ad (AN (AB op_eq (pv 1) (Av rfl m1 r1) (AA _)) (Af (Al (AQ (pv 0) CE.cls h1 G1 hr b1 .nil Ap))) Ax)<|
   Ad (AN (AB op_eq (pv 1) (Av rfl m2 r2) (AA _)) (Af (Al (AQ (pv 0) CE.cls h2 G2 hr b2 .nil Ap))) Ax)<|
   Ad (AN (AB op_eq (pv 1) (Av rfl m3 r3) (AA _)) (Af (Al (Ay (pv 0) CE.cls h3 G3 hr8 b3 .nil Ap (Aa (pv 2) Ac)))) Ax)<|
   Af (Al (Ay (pv 0) CE.cls h4 G4 hr8 b4 .nil Ap (Aa (pv 2) Ac))),?_⟩
  cases hcl
  all_goals first
   | exact absurd hlo (by decide)
   | exact absurd hhi (by decide)
   | skip
  ·
   exact⟨_,rfl,rfl,_,rfl,eT rfl ⟨_,rfl,x,dx,_,rfl,L.ins,rfl,x,dx,ca,ba,[],_,a,m,rfl,⟨rfl,rfl⟩,L,G,hm,k⟩⟩
  ·
   exact⟨_,rfl,rfl,_,rfl,eF rfl ⟨_,rfl,rfl,_,rfl,eT rfl ⟨_,rfl,x,dx,_,rfl,L.ins,rfl,x,dx,ca,ba,[],_,a,m,rfl,⟨rfl,rfl⟩,L,G,hm,k⟩⟩⟩
  ·
   exact⟨_,rfl,rfl,_,rfl,eF rfl ⟨_,rfl,rfl,_,rfl,eF rfl ⟨_,rfl,rfl,_,rfl,eT rfl ⟨_,rfl,x,dx,_,rfl,L.ins,rfl,x,dx,ca,ba,[],_,a,m,rfl,⟨rfl,rfl⟩,L,G,hm,k⟩⟩⟩⟩
  ·
   exact⟨_,rfl,rfl,_,rfl,eF rfl ⟨_,rfl,rfl,_,rfl,eF rfl ⟨_,rfl,rfl,_,rfl,eF rfl ⟨_,rfl,rfl,_,rfl,eT rfl ⟨_,rfl,x,dx,_,rfl,L.ins,rfl,_,rfl,x,dx,ca,ba,[.ref ga],_,a,m,rfl,⟨ga,l,rfl,SqL.of hga,by omega,rfl⟩,L,G,hm,k⟩⟩⟩⟩⟩
  ·
   exact⟨_,rfl,rfl,_,rfl,eF rfl ⟨_,rfl,rfl,_,rfl,eF rfl ⟨_,rfl,rfl,_,rfl,eF rfl ⟨_,rfl,rfl,_,rfl,eF rfl ⟨_,rfl,x,dx,_,rfl,L.ins,rfl,_,rfl,x,dx,ca,ba,[.ref ga],_,a,m,rfl,⟨ga,l,rfl,SqL.of hga,by omega,rfl⟩,L,G,hm,k⟩⟩⟩⟩⟩
theorem scWhatIf:Aq ["line","number","given"] ["line","number","given"] (Ag sWhatIf):=⟨rfl,rfl,rfl,by decide +kernel,rfl,by decide +kernel,by decide +kernel⟩
theorem ok_WhatIf {f C CB tb f0 f1 f2 f3:Addr}{fd d0 d1 d2 d3:FuncData}(F:Fun K "answer_of_what_if" "answer_of_what_if" sWhatIf f fd)(CE:AO K C)
  (h0:AT K C "worth" f0)(G0:Ah P w K mg base CX0 9 f0 d0 ["self"] (spM P w tb CB C aWorth))(b0:An K d0 ["self"] [])
  (h1:AT K C "need" f1)(G1:Ah P w K mg base CX0 8 f1 d1 ["self","above","below"] (spM P w tb CB C aNeed))(b1:An K d1 ["self","above","below"] [])
  (h2:AT K C "order" f2)(G2:Ah P w K mg base CX0 8 f2 d2 ["self","way"] (spM P w tb CB C (aOrder K)))(b2:An K d2 ["self","way"] [])
  (h3:AT K C "turned" f3)(G3:Ah P w K mg base CX0 8 f3 d3 ["self"] (spM P w tb CB C aTurned))(b3:An K d3 ["self"] [])
  (n0:Num mg "WORTH" 10)(n1:Num mg "NEED" 11)(n2:Num mg "ORDER" 12):
  Ah P w K mg base CX0 10 f fd ["line","number","given"] (spAns P w tb CB C 10 13):=by
 obtain⟨u0,m0,r0⟩:=n0
 obtain⟨u1,m1,r1⟩:=n1
 obtain⟨u2,m2,r2⟩:=n2
 refine F.ok scWhatIf (fun vs H Q E h=>?_) (fun cdv A outer s H vs Q E hr h=>?_)
 ·
  obtain⟨x,ga,dx,ca,ba,p,l,cl,a,m,rfl,_⟩:=h
  rfl
 ·
  obtain⟨x,ga,dx,ca,ba,p,l,cl,a,m,rfl,hga,h6,hcl,hlo,hhi,L,G,hm,k⟩:=h
  have hr8:AM 8 _:=hr.mono (by decide)
  refine⟨_,Ad (AN (AB op_eq (pv 1) (Av rfl m0 r0) (AA _)) (Af (Al (AQ (pv 0) CE.cls h0 G0 hr b0 .nil Ap))) Ax)<|
   Ad (AN (AB op_eq (pv 1) (Av rfl m1 r1) (AA _)) (Af (Al (Ay (pv 0) CE.cls h1 G1 hr8 b1 .nil Ap (Aa (AK AI (pv 2) Ao (fun _ _=>rfl)) (Aa (AK AI (pv 2) Ao (fun _ _=>rfl)) Ac))))) Ax)<|
   Ad (AN (AB op_eq (pv 1) (Av rfl m2 r2) (AA _)) (Af (Al (Ay (pv 0) CE.cls h2 G2 hr8 b2 .nil Ap (Aa (pv 2) Ac)))) Ax)<|
   Af (Al (AQ (pv 0) CE.cls h3 G3 hr8 b3 .nil Ap)),?_⟩
  cases hcl
  all_goals first
   | exact absurd hlo (by decide)
   | exact absurd hhi (by decide)
   | skip
  ·
   exact⟨_,rfl,rfl,_,rfl,eT rfl ⟨_,rfl,x,dx,_,rfl,L.ins,rfl,x,dx,ca,ba,[],_,a,m,rfl,⟨rfl,rfl⟩,L,G,hm,k⟩⟩
  ·
   rename_i n1 n2
   exact⟨_,rfl,rfl,_,rfl,eF rfl ⟨_,rfl,rfl,_,rfl,eT rfl ⟨_,rfl,x,dx,_,rfl,L.ins,rfl,_,rfl,ga,_,_,_,rfl,rfl,SqL.of hga,rfl,_,rfl,ga,_,_,_,rfl,rfl,SqL.of hga,rfl,x,dx,ca,ba,[nV n1,nV n2],_,a,m,rfl,⟨_,_,rfl,rfl⟩,L,G,hm,k⟩⟩⟩
  ·
   exact⟨_,rfl,rfl,_,rfl,eF rfl ⟨_,rfl,rfl,_,rfl,eF rfl ⟨_,rfl,rfl,_,rfl,eT rfl ⟨_,rfl,x,dx,_,rfl,L.ins,rfl,_,rfl,x,dx,ca,ba,[.ref ga],_,a,m,rfl,⟨ga,l,rfl,SqL.of hga,by omega,rfl⟩,L,G,hm,k⟩⟩⟩⟩
  ·
   exact⟨_,rfl,rfl,_,rfl,eF rfl ⟨_,rfl,rfl,_,rfl,eF rfl ⟨_,rfl,rfl,_,rfl,eF rfl ⟨_,rfl,x,dx,_,rfl,L.ins,rfl,x,dx,ca,ba,[],_,a,m,rfl,⟨rfl,rfl⟩,L,G,hm,k⟩⟩⟩⟩
theorem scOfMach:Aq ["line","number","given"] ["line","number","given"] (Ag sOfMach):=⟨rfl,rfl,rfl,by decide +kernel,rfl,by decide +kernel,by decide +kernel⟩
theorem ok_OfMach {f C CB tb f0 f1 f2 f3:Addr}{fd d0 d1 d2 d3:FuncData}(F:Fun K "answer_of_machines" "answer_of_machines" sOfMach f fd)(CE:AO K C)
  (h0:AT K C "bound" f0)(G0:Ah P w K mg base CX0 1 f0 d0 ["self"] (spM P w tb CB C aBound))(b0:An K d0 ["self"] [])
  (h1:AT K C "gain" f1)(G1:Ah P w K mg base CX0 10 f1 d1 ["self","machine"] (spM P w tb CB C aGain))(b1:An K d1 ["self","machine"] [])
  (h2:AT K C "neck" f2)(G2:Ah P w K mg base CX0 10 f2 d2 ["self"] (spM P w tb CB C aNeck))(b2:An K d2 ["self"] [])
  (h3:AT K C "state" f3)(G3:Ah P w K mg base CX0 1 f3 d3 ["self"] (spM P w tb CB C aState))(b3:An K d3 ["self"] [])
  (n0:Num mg "BOUND" 14)(n1:Num mg "GAIN" 15)(n2:Num mg "NECK" 16):
  Ah P w K mg base CX0 11 f fd ["line","number","given"] (spAns P w tb CB C 14 17):=by
 obtain⟨u0,m0,r0⟩:=n0
 obtain⟨u1,m1,r1⟩:=n1
 obtain⟨u2,m2,r2⟩:=n2
 refine F.ok scOfMach (fun vs H Q E h=>?_) (fun cdv A outer s H vs Q E hr h=>?_)
 ·
  obtain⟨x,ga,dx,ca,ba,p,l,cl,a,m,rfl,_⟩:=h
  rfl
 ·
  obtain⟨x,ga,dx,ca,ba,p,l,cl,a,m,rfl,hga,h6,hcl,hlo,hhi,L,G,hm,k⟩:=h
  have hr1:AM 1 _:=hr.mono (by decide)
  refine⟨_,Ad (AN (AB op_eq (pv 1) (Av rfl m0 r0) (AA _)) (Af (Al (AQ (pv 0) CE.cls h0 G0 hr1 b0 .nil Ap))) Ax)<|
   Ad (AN (AB op_eq (pv 1) (Av rfl m1 r1) (AA _)) (Af (Al (Ay (pv 0) CE.cls h1 G1 hr b1 .nil Ap (Aa (AK AI (pv 2) Ao (fun _ _=>rfl)) Ac)))) Ax)<|
   Ad (AN (AB op_eq (pv 1) (Av rfl m2 r2) (AA _)) (Af (Al (AQ (pv 0) CE.cls h2 G2 hr b2 .nil Ap))) Ax)<|
   Af (Al (AQ (pv 0) CE.cls h3 G3 hr1 b3 .nil Ap)),?_⟩
  cases hcl
  all_goals first
   | exact absurd hlo (by decide)
   | exact absurd hhi (by decide)
   | skip
  ·
   exact⟨_,rfl,rfl,_,rfl,eT rfl ⟨_,rfl,x,dx,_,rfl,L.ins,rfl,x,dx,ca,ba,[],_,a,m,rfl,⟨rfl,rfl⟩,L,G,hm,k⟩⟩
  ·
   rename_i n1
   exact⟨_,rfl,rfl,_,rfl,eF rfl ⟨_,rfl,rfl,_,rfl,eT rfl ⟨_,rfl,x,dx,_,rfl,L.ins,rfl,_,rfl,ga,_,_,_,rfl,rfl,SqL.of hga,rfl,x,dx,ca,ba,[nV n1],_,a,m,rfl,⟨_,rfl,rfl⟩,L,G,hm,k⟩⟩⟩
  ·
   exact⟨_,rfl,rfl,_,rfl,eF rfl ⟨_,rfl,rfl,_,rfl,eF rfl ⟨_,rfl,rfl,_,rfl,eT rfl ⟨_,rfl,x,dx,_,rfl,L.ins,rfl,x,dx,ca,ba,[],_,a,m,rfl,⟨rfl,rfl⟩,L,G,hm,k⟩⟩⟩⟩
  ·
   exact⟨_,rfl,rfl,_,rfl,eF rfl ⟨_,rfl,rfl,_,rfl,eF rfl ⟨_,rfl,rfl,_,rfl,eF rfl ⟨_,rfl,x,dx,_,rfl,L.ins,rfl,x,dx,ca,ba,[],_,a,m,rfl,⟨rfl,rfl⟩,L,G,hm,k⟩⟩⟩⟩
end
end Wk
namespace Rb
theorem okC_getD {c:List Nat}{i:Nat}(h:Su112.okC c=true)(hi:i<c.length):Su111.okP (c.getD i 0)=true:=by
 unfold Su112.okC at h
 rw[Bool.and_eq_true,Bool.and_eq_true] at h
 exact List.all_eq_true.mp h.2.2 _ (getD_mem _ _ _ hi)
theorem ways_self {g:Nat}(h:g≤3):Su112.waysOf g g≠[]:=by
 have:∀g∈List.range 4,Su112.waysOf g g≠[]:=by decide +kernel
 exact this g (List.mem_range.mpr (by omega))
end Rb
namespace Wk
open PySem PySem.Spec PyProof.Rows L2 Rb
abbrev sInit:Stmt:=mth "__init__"
abbrev sCall:Stmt:=top 71
theorem good_begin {l:List Nat}(h:Su112.okC l=true):Good ⟨l,l.length-1⟩:=by
 obtain⟨h2,h4⟩:=okC_len h
 refine⟨h,Nat.le_refl _,?_,?_⟩
 ·
  show l.length-1≤8;omega
 ·
  exact ways_self (by show l.length-1≤3;omega)
theorem good_chances {a:Su112.Abs}{c:List Nat}(G:Good a)(h:Su112.okC c=true)(hl:c.length=a.chances.length):Good {a with chances:=c}:=by
 have e:({a with chances:=c}:Su112.Abs).gaps=a.gaps:=by show c.length-1=a.chances.length-1;rw[hl]
 refine⟨h,?_,G.top,?_⟩
 ·
  rw[e];exact G.le
 ·
  rw[e];exact G.some_
theorem good_does {a:Su112.Abs}(G:Good a)(cl:Su112.Call):Good (Su112.does a cl).1:=by
 cases cl with
 |
  begin_ l=>
  show Good (if Su112.okC l=false then (a,Su112.no (-22)) else (⟨l,l.length-1⟩,Su112.no 0)).1
  cases h:Su112.okC l with
  | false=>rw[if_pos rfl];exact G
  | true=>rw[if_neg (by decide)];exact good_begin h
 |
  total n=>
  rw[does_total]
  by_cases h:n<a.gaps∨Su112.TOTAL<n∨Su112.waysOf a.gaps n=[]
  ·
   rw[if_pos h];exact G
  ·
   rw[if_neg h]
   have h8:n≤8:=by
    apply Classical.byContradiction
    intro q
    exact h (.inr (.inl (by show 8<n;omega)))
   refine⟨G.ch,?_,h8,fun z=>h (.inr (.inr z))⟩
   show a.gaps≤n
   apply Classical.byContradiction
   intro q
   exact h (.inl (by omega))
 |
  chance i p=>
  rw[does_chance]
  by_cases h:a.isM i=false
  ·
   rw[if_pos h];exact G
  ·
   rw[if_neg h]
   cases hp:Su111.okP p with
   | false=>rw[if_pos rfl];exact G
   | true=>rw[if_neg (by decide)];exact good_chances G (okC_set G.ch hp) (by rw[List.length_set])
 |
  swap i j=>
  rw[does_swap]
  by_cases h:a.isM i=false∨a.isM j=false
  ·
   rw[if_pos h];exact G
  ·
   rw[if_neg h]
   have hi:i<a.chances.length:=by
    apply Classical.byContradiction
    intro q
    exact h (.inl (decide_eq_false q))
   have hj:j<a.chances.length:=by
    apply Classical.byContradiction
    intro q
    exact h (.inr (decide_eq_false q))
   exact good_chances G (okC_set (okC_set G.ch (okC_getD G.ch hj)) (okC_getD G.ch hi)) (by rw[List.length_set,List.length_set])
 | turn=>exact good_chances G (okC_rev G.ch) (by rw[List.length_reverse])
 | best=>exact G
 | worst=>exact G
 | ways=>exact G
 |
  of l=>
  rw[does_of]
  split<;>exact G
 |
  place l=>
  rw[does_place]
  split<;>exact G
 |
  worth=>
  rw[does_worth]
  split<;>exact G
 |
  need x y=>
  rw[does_need]
  split
  ·
   exact G
  ·
   split<;>exact G
 |
  order l=>
  rw[does_order]
  split<;>exact G
 | turned=>exact G
 | bound=>exact G
 |
  gain i=>
  rw[does_gain]
  split
  ·
   exact G
  ·
   split<;>exact G
 |
  neck=>
  rw[does_neck]
  split<;>exact G
 | state=>exact G
def stC:Option Su112.Abs→List Nat
 | none=>[]
 | some a=>a.chances
def stN:Option Su112.Abs→Nat
 | none=>0
 | some a=>a.total
def GoodS (st:Option Su112.Abs):Prop:=∀a,st=some a→Good a
theorem step_begin (st:Option Su112.Abs)(l:List Nat):(stC (Su112.step st (.begin_ l)).1=if Su112.okC l=true then l else stC st)∧(stN (Su112.step st (.begin_ l)).1=if Su112.okC l=true then l.length-1 else stN st)∧
  (Su112.step st (.begin_ l)).2=Su112.no (if Su112.okC l=true then 0 else -22):=by
 cases st with
 | none=>cases h:Su112.okC l<;>simp[Su112.step,Su112.does,h,Su112.no,stC,stN]
 | some a=>cases h:Su112.okC l<;>simp[Su112.step,Su112.does,h,Su112.no,stC,stN]
theorem step_some (a:Su112.Abs)(cl:Su112.Call):Su112.step (some a) cl=(some (Su112.does a cl).1,(Su112.does a cl).2):=by
 cases cl<;>rfl
theorem good_step {st:Option Su112.Abs}(G:GoodS st)(cl:Su112.Call):GoodS (Su112.step st cl).1:=by
 cases st with
 |
  some a=>
  rw[step_some]
  intro b hb
  rw[←Option.some.inj hb]
  exact good_does (G a rfl) cl
 |
  none=>
  cases cl with
  |
   begin_ l=>
   intro b hb
   cases h:Su112.okC l with
   |
    false=>
    have:(Su112.step none (.begin_ l)).1=none:=by simp[Su112.step,Su112.does,h,Su112.no]
    rw[this] at hb;cases hb
   |
    true=>
    have:(Su112.step none (.begin_ l)).1=some ⟨l,l.length-1⟩:=by simp[Su112.step,Su112.does,h,Su112.no]
    rw[this] at hb
    rw[←Option.some.inj hb]
    exact good_begin h
  | _=>intro b hb;cases hb
section
variable {P:Program}{w:World}{K:PySem.W.Frag}{mg:Str→Option Value}{base:Heap}
def spCall (P:Program)(w:World)(tb CB C:Addr):Sp:=fun vs H Q _=>∃(x ga dx ca ba:Addr) (p:Int) (l:List Nat) (cl:Su112.Call) (st:Option Su112.Abs) (m:Nat),vs=[.ref x,.int p,.ref ga]∧H ga=some (.lst (l.map nV))∧l.length≤6∧IsCall p l cl∧Ln P w tb CB x C dx ca ba H (stC st) (stN st) m∧GoodS st∧m<9000000∧
 ∀(H':Hp) (q ca':Addr),Stp P w tb CB x C dx ca ba H H' ca' (stC (Su112.step st cl).1) (stN (Su112.step st cl).1) (m+1000)→NewL H q→H' q=some (.lst (ansL (Su112.step st cl).2))→Q (.ref q) H'
theorem scCall:Aq ["line","number","given"] ["line","number","given"] (Ag sCall):=⟨rfl,rfl,rfl,by decide +kernel,rfl,by decide +kernel,by decide +kernel⟩
theorem Stp.more {tb CB x C dx ca ba:Addr}{H H':Hp}{ca':Addr}{c:List Nat}{n m m':Nat}(S:Stp P w tb CB x C dx ca ba H H' ca' c n m)(h:m≤m'):Stp P w tb CB x C dx ca ba H H' ca' c n m':=⟨S.ln.more h,S.kp,S.new⟩
theorem isCall_range {p:Int}{l:List Nat}{cl:Su112.Call}(h:IsCall p l cl):0≤p∧p≤17:=by cases h<;>decide
theorem isCall_zero {l:List Nat}{cl:Su112.Call}(h:IsCall 0 l cl):cl=.begin_ l:=by cases h;rfl
theorem step_none {p:Int}{l:List Nat}{cl:Su112.Call}(h:IsCall p l cl)(hp:p≠0):Su112.step none cl=(none,Su112.no (-11)):=by
 cases h<;>first | rfl | exact absurd rfl hp
theorem ok_call {f C CB tb fB fH f1 f2 f3 f4:Addr}{fd fdB fdH fd1 fd2 fd3 fd4:FuncData}(F:Fun K "answer_call" "answer_call" sCall f fd)(CE:AO K C)
  (hB:AT K C "begin" fB)(GB:Ah P w K mg base CX0 3 fB fdB ["self","chances"] (spBegin P w K tb CB C))(bB:An K fdB ["self","chances"] [])
  (hH:AT K C "has_begun" fH)(GH:Ah P w K mg base CX0 1 fH fdH ["self"] (spBegun C))(bH:An K fdH ["self"] [])
  (G1:Ah P w K mg base CX0 6 f1 fd1 ["line","number","given"] (spAns P w tb CB C 1 4))(b1:An K fd1 ["line","number","given"] [])(k1:PySem.W.keepIn K (.ref f1)=true)(m1:mg "answer_change"=some (.ref f1))
  (G2:Ah P w K mg base CX0 10 f2 fd2 ["line","number","given"] (spAns P w tb CB C 5 9))(b2:An K fd2 ["line","number","given"] [])(k2:PySem.W.keepIn K (.ref f2)=true)(m2:mg "answer_of_ways"=some (.ref f2))
  (G3:Ah P w K mg base CX0 10 f3 fd3 ["line","number","given"] (spAns P w tb CB C 10 13))(b3:An K fd3 ["line","number","given"] [])(k3:PySem.W.keepIn K (.ref f3)=true)(m3:mg "answer_of_what_if"=some (.ref f3))
  (G4:Ah P w K mg base CX0 11 f4 fd4 ["line","number","given"] (spAns P w tb CB C 14 17))(b4:An K fd4 ["line","number","given"] [])(k4:PySem.W.keepIn K (.ref f4)=true)(m4:mg "answer_of_machines"=some (.ref f4))
  (n0:Num mg "BEGIN" 0)(n4:Num mg "TURN" 4)(n9:Num mg "PLACE" 9)(n13:Num mg "TURNED" 13)(n11:Num mg "NOT_BEGUN" (-11)):Ah P w K mg base CX0 12 f fd ["line","number","given"] (spCall P w tb CB C):=by
 obtain⟨u0,e0,r0⟩:=n0
 obtain⟨u4,e4,r4⟩:=n4
 obtain⟨u9,e9,r9⟩:=n9
 obtain⟨u13,e13,r13⟩:=n13
 obtain⟨u11,e11,r11⟩:=n11
 refine F.ok scCall (fun vs H Q E h=>?_) (fun cdv A outer s H vs Q E hr h=>?_)
 ·
  obtain⟨x,ga,dx,ca,ba,p,l,cl,st,m,rfl,_⟩:=h
  rfl
 ·
  obtain⟨x,ga,dx,ca,ba,p,l,cl,st,m,rfl,hga,h6,hcl,L,G,hm,k⟩:=h
  have hr1:AM 1 _:=hr.mono (by decide)
  have hr3:AM 3 _:=hr.mono (by decide)
  have hr6:AM 6 _:=hr.mono (by decide)
  have hr10:AM 10 _:=hr.mono (by decide)
  obtain⟨p0,p17⟩:=isCall_range hcl
  refine⟨_,Ad (AN (AB op_eq (pv 1) (Av rfl e0 r0) (AA _)) (Af (Al (Ay (pv 0) CE.cls hB GB hr3 bB .nil Ap (Aa (pv 2) Ac)))) Ax)<|
   Ad (AN (pt_not (pt_val (AQ (pv 0) CE.cls hH GH hr1 bH .nil Ap))) (Af (Al (AD (Aa (Av rfl e11 r11) Ac)))) Ax)<|
   Ad (AN (AB op_le (pv 1) (Av rfl e4 r4) (AA _)) (Af (Al (Aw G1 hr6 rfl m1 k1 b1 .nil Ap (Aa (pv 0) (Aa (pv 1) (Aa (pv 2) Ac)))))) Ax)<|
   Ad (AN (AB op_le (pv 1) (Av rfl e9 r9) (AA _)) (Af (Al (Aw G2 hr10 rfl m2 k2 b2 .nil Ap (Aa (pv 0) (Aa (pv 1) (Aa (pv 2) Ac)))))) Ax)<|
   Ad (AN (AB op_le (pv 1) (Av rfl e13 r13) (AA _)) (Af (Al (Aw G3 hr10 rfl m3 k3 b3 .nil Ap (Aa (pv 0) (Aa (pv 1) (Aa (pv 2) Ac)))))) Ax)<|
   Af (Al (Aw G4 hr rfl m4 k4 b4 .nil Ap (Aa (pv 0) (Aa (pv 1) (Aa (pv 2) Ac))))),?_⟩
  refine⟨_,rfl,rfl,_,rfl,?_⟩
  by_cases hp:p=0
  ·
   subst hp
   have ec:=isCall_zero hcl
   subst ec
   rw[show decide (V.int 0=V.int 0)=true from rfl]
   refine AY ?_
   refine⟨_,rfl,x,dx,_,rfl,L.ins,rfl,_,rfl,x,ga,dx,ca,ba,stC st,l,stN st,m,rfl,SqL.of hga,by omega,L,fun H' q ca' S hq hat=>?_⟩
   obtain⟨s1,s2,s3⟩:=step_begin st l
   refine k H' q ca' ?_ (NewL.of hq) ?_
   ·
    rw[s1,s2];exact S.more (by omega)
   ·
    rw[s3,hat];rfl
  ·
   have hb:decide (V.int p=V.int 0)=false:=decide_eq_false (fun z=>hp (V.int.inj z))
   rw[hb]
   refine A3 ?_
   refine⟨_,rfl,x,dx,_,rfl,L.ins,rfl,x,dx,ca,ba,stC st,stN st,rfl,L.shows,_,rfl,?_⟩
   cases st with
   |
    none=>
    refine AY ⟨(by show 1≤sizeLine;decide),fun q hq=>?_⟩
    rw[step_none hcl hp] at k
    exact k _ q ca (stp_same L (Ae.upd hq)) (NewL.of hq) Ab
   |
    some a=>
    have Ga:=G a rfl
    obtain⟨h2,h4⟩:=okC_len Ga.ch
    have hb2:decide (0<(stC (some a)).length)=true:=decide_eq_true (by show 0<a.chances.length;omega)
    rw[hb2]
    refine A3 ?_
    rw[step_some] at k
    refine⟨_,rfl,_,_,rfl,rfl,_,rfl,?_⟩
    by_cases q4:p≤4
    ·
     rw[decide_eq_true q4]
     refine AY ?_
     exact⟨_,rfl,_,rfl,_,rfl,x,ga,dx,ca,ba,p,l,cl,a,m,rfl,hga,h6,hcl,by omega,q4,L,Ga,hm,k⟩
    ·
     rw[decide_eq_false q4]
     refine A3 ⟨_,rfl,_,_,rfl,rfl,_,rfl,?_⟩
     by_cases q9:p≤9
     ·
      rw[decide_eq_true q9]
      refine AY ?_
      exact⟨_,rfl,_,rfl,_,rfl,x,ga,dx,ca,ba,p,l,cl,a,m,rfl,hga,h6,hcl,by omega,q9,L,Ga,hm,k⟩
     ·
      rw[decide_eq_false q9]
      refine A3 ⟨_,rfl,_,_,rfl,rfl,_,rfl,?_⟩
      by_cases q13:p≤13
      ·
       rw[decide_eq_true q13]
       refine AY ?_
       exact⟨_,rfl,_,rfl,_,rfl,x,ga,dx,ca,ba,p,l,cl,a,m,rfl,hga,h6,hcl,by omega,q13,L,Ga,hm,k⟩
      ·
       rw[decide_eq_false q13]
       refine A3 ?_
       exact⟨_,rfl,_,rfl,_,rfl,x,ga,dx,ca,ba,p,l,cl,a,m,rfl,hga,h6,hcl,by omega,p17,L,Ga,hm,k⟩
theorem tab_off {tb x C dx:Addr}{fs:List (Str×V)}{H H':Hp}(t:Tab tb lPos lQual H)(hx:H x=some (.ins C dx fs))(fr:∀b o,H b=some o→b≠x→H' b=some o):Tab tb lPos lQual H':=by
 obtain⟨ps,h1,h2,h3⟩:=t.ex
 refine⟨ps,fr _ _ h1 (fun z=>by rw[z,hx] at h1;cases h1),h2,?_⟩
 rcases h3 with z | ⟨cc,z,e⟩
 ·
  exact .inl z
 ·
  exact .inr ⟨cc,z,fr _ _ e (fun z=>by rw[z,hx] at e;cases e)⟩
theorem Bo.off {tb CB br x C dx:Addr}{fs:List (Str×V)}{H H':Hp}{m:Nat}(B:Bo P w tb CB br H m)(hx:H x=some (.ins C dx fs))(hf:fs.length≠1)(fr:∀b o,H b=some o→b≠x→H' b=some o):Bo P w tb CB br H' m:=by
 obtain⟨bx,ba,kvs,h1,d,bk,l⟩:=B.ex
 have tup:∀b xs,H b=some (.tup xs)→H' b=some (.tup xs):=fun b xs e=>fr b _ e (fun z=>by rw[z,hx] at e;cases e)
 refine⟨tab_off B.tab hx fr,bx,ba,kvs,fr _ _ h1 (fun z=>?_),⟨fr _ _ d.at_ (fun z=>?_),fun q hq=>?_⟩,fun q hq=>?_,l⟩
 ·
  rw[z,hx] at h1
  have e:=Option.some.inj h1
  injection e with _ _ e3
  rw[e3] at hf
  exact hf rfl
 ·
  have e:=d.at_
  rw[z,hx] at e;cases e
 ·
  obtain⟨bs,e1,e2⟩:=d.keys q hq
  exact⟨bs,tup _ _ e1,Paired.mapP e2 fun b x q=>tup _ _ q⟩
 ·
  obtain⟨c1,r1,e,f,sm⟩:=bk q hq
  exact⟨c1,r1,e,tup _ _ f,sm⟩
def spInit (P:Program)(w:World)(tb CB C:Addr):Sp:=fun vs H Q _=>∃(x dx:Addr),vs=[.ref x]∧H x=some (.ins C dx [])∧Tab tb lPos lQual H∧
 ∀(H':Hp) (ca ba:Addr),Ln P w tb CB x C dx ca ba H' [] 0 0→(∀b o,H b=some o→b≠x→H' b=some o)→H ca=none→Q .non H'
theorem scInit:Aq ["self"] ["self"] (Ag sInit):=⟨rfl,rfl,rfl,by decide +kernel,rfl,by decide +kernel,by decide +kernel⟩
theorem ok_init {f C CB tb fB:Addr}{fd fdB:FuncData}(F:Fun K "__init__" "Line.__init__" sInit f fd)(CE:AO K C)(MB:L2.Mk K CB fB)(GB:Ah P w K mg base CX0 1 fB fdB ["self"] (spInitB P w tb CB))(bB:An K fdB ["self"] [])(mB:mg "Brought"=some (.ref CB)):Ah P w K mg base CX0 3 f fd ["self"] (spInit P w tb CB C):=by
 refine F.ok scInit (fun vs H Q E h=>?_) (fun cdv A outer s H vs Q E hr h=>?_)
 ·
  obtain⟨x,dx,rfl,_⟩:=h
  rfl
 ·
  obtain⟨x,dx,rfl,hx,tab,k⟩:=h
  refine⟨_,Ad (ps_fld (pv 0) (AD Ac) rfl)<|Ad (ps_fld (pv 0) Ao rfl)<|Af (ps_fld (pv 0) (pe_make0 MB GB hr rfl mB bB .nil Ap) rfl),?_⟩
  refine⟨Nat.zero_le _,fun ca hca=>?_⟩
  have s1:=Ae.upd (o:=.lst []) hca
  refine⟨_,rfl,x,C,dx,[],rfl,s1 _ _ hx,CE.cls,CE.nC,(by show 0<1000;decide),?_⟩
  refine⟨_,rfl,x,C,dx,_,rfl,Ab,CE.cls,CE.nR,(by show 1<1000;decide),?_⟩
  rw[upd_upd]
  have hxc:x≠ca:=Aj hx hca
  have k2:∀b o,H b=some o→b≠x→(upd (upd H ca (.lst [])) x (.ins C dx [("chances",.ref ca),("room_for_all",.int 0)])) b=some o:=fun b o e hb=>by
   rw[Ai hb];exact s1 _ _ e
  have x2:(upd (upd H ca (.lst [])) x (.ins C dx [("chances",.ref ca),("room_for_all",.int 0)])) x=some (.ins C dx [("chances",.ref ca),("room_for_all",.int 0)]):=Ab
  have c2:(upd (upd H ca (.lst [])) x (.ins C dx [("chances",.ref ca),("room_for_all",.int 0)])) ca=some (.lst []):=by rw[Ai (Ne.symm hxc)];exact Ab
  have eput:putF "room_for_all" (V.int 0) (putF "chances" (V.ref ca) [])=([("chances",.ref ca),("room_for_all",.int 0)]:List (Str×V)):=rfl
  rw[eput]
  have tab2:Tab tb lPos lQual (upd (upd H ca (.lst [])) x (.ins C dx [("chances",.ref ca),("room_for_all",.int 0)])):=tab_off tab hx k2
  generalize (upd (upd H ca (.lst [])) x (.ins C dx [("chances",.ref ca),("room_for_all",.int 0)]))=H2 at k2 x2 c2 tab2
  intro br bx hbr hbx hne
  have s3:Ae H2 (upd H2 bx (.own br)):=Ae.upd hbx
  have hbr3:(upd H2 bx (.own br)) br=none:=by rw[Ai (Ne.symm hne)];exact hbr
  have sA:=Ae.trans s3 (Ae.upd (o:=.ins CB bx []) hbr3)
  refine⟨br,bx,rfl,Ab,tab2.same sA,fun H4 B4 kp4=>⟨rfl,?_⟩⟩
  have x4:H4 x=some (.ins C dx [("chances",.ref ca),("room_for_all",.int 0)]):=kp4 _ _ (sA _ _ x2) (Aj x2 hbr)
  have c4:H4 ca=some (.lst []):=kp4 _ _ (sA _ _ c2) (Aj c2 hbr)
  refine⟨_,rfl,x,C,dx,_,rfl,x4,CE.cls,CE.nB,(by show 2<1000;decide),?_⟩
  have eput2:putF "brought" (V.ref br) ([("chances",.ref ca),("room_for_all",.int 0)]:List (Str×V))=lineF ca 0 br:=rfl
  rw[eput2]
  refine k _ ca br ⟨Ab,?_,B4.off x4 (by show 2≠1;decide) (fun b o e hb=>by rw[Ai hb];exact e)⟩ (fun b o e hb=>?_) hca
  ·
   rw[Ai (Ne.symm hxc)];exact c4
  ·
   rw[Ai hb]
   exact kp4 _ _ (sA _ _ (k2 b o e hb)) (Aj (k2 b o e hb) hbr)
end
end Wk
namespace Rb
open PySu112 Wk
inductive Shp:List (List Int)→Prop
 | plain (p:Int) (ys:List Int) (b:hasRow p=false) (hp:0≤p∧p≤17) (hl:ys.length=AV p):Shp [p::ys]
 | row (p:Int) (ys:List Int) (b:hasRow p=true):Shp [[p],ys]
theorem shape_range {p:Int}{n k:Nat}(h:shape p=some (n,k)):0≤p∧p≤17:=by
 unfold shape at h
 refine⟨?_,?_⟩
 ·
  apply Classical.byContradiction
  intro q
  simp only[show ¬p=0 by omega,show ¬p=1 by omega,show ¬p=2 by omega,show ¬p=3 by omega,show ¬p=4 by omega,show ¬p=5 by omega,show ¬p=6 by omega,show ¬p=7 by omega,show ¬p=8 by omega,show ¬p=9 by omega,show ¬p=10 by omega,show ¬p=11 by omega,show ¬p=12 by omega,show ¬p=13 by omega,show ¬p=14 by omega,show ¬p=15 by omega,show ¬p=16 by omega,show ¬p=17 by omega,if_false] at h
  cases h
 ·
  apply Classical.byContradiction
  intro q
  simp only[show ¬p=0 by omega,show ¬p=1 by omega,show ¬p=2 by omega,show ¬p=3 by omega,show ¬p=4 by omega,show ¬p=5 by omega,show ¬p=6 by omega,show ¬p=7 by omega,show ¬p=8 by omega,show ¬p=9 by omega,show ¬p=10 by omega,show ¬p=11 by omega,show ¬p=12 by omega,show ¬p=13 by omega,show ¬p=14 by omega,show ¬p=15 by omega,show ¬p=16 by omega,show ¬p=17 by omega,if_false] at h
  cases h
theorem call_shp {p:Int}{r t:List Int}{c:List (List Int)}(hc:PyFlat.call shape (p::r)=some (c,t)):Shp c:=by
 simp only[PyFlat.call] at hc
 cases hs:shape p with
 | none=>rw[hs] at hc;cases hc
 |
  some nk=>
  obtain⟨n,k⟩:=nk
  rw[hs] at hc
  simp only at hc
  by_cases hl:r.length<n
  ·
   rw[if_pos hl] at hc;cases hc
  ·
   rw[if_neg hl] at hc
   rcases shape_cases hs with ⟨rfl,b,e⟩ | ⟨rfl,rfl,b⟩
   ·
    simp only[PyFlat.rows,Option.some.injEq,Prod.mk.injEq] at hc
    obtain⟨rfl,rfl⟩:=hc
    exact .plain p _ b (shape_range hs) (by rw[List.length_take,e];omega)
   ·
    rw[List.drop_zero] at hc
    cases r with
    | nil=>simp[PyFlat.rows,PyFlat.row] at hc
    |
     cons m r'=>
     by_cases hm:0≤m∧m.toNat≤r'.length
     ·
      simp only[PyFlat.rows,PyFlat.row,if_pos hm,Option.some.injEq,Prod.mk.injEq] at hc
      obtain⟨rfl,rfl⟩:=hc
      exact .row p _ b
     ·
      simp only[PyFlat.rows,PyFlat.row,if_neg hm] at hc
      cases hc
theorem calls_shp:∀(f:Nat) (l:List Int) (raws:List (List (List Int))),PyFlat.calls shape f l=some raws→∀raw∈raws,Shp raw
 |
  0,[],raws,h=>by
  simp only[PyFlat.calls,Option.some.injEq] at h
  subst h
  intro raw hr;simp at hr
 |
  f+1,[],raws,h=>by
  simp only[PyFlat.calls,Option.some.injEq] at h
  subst h
  intro raw hr;simp at hr
 | 0,_::_,raws,h=>by simp[PyFlat.calls] at h
 |
  f+1,p::r,raws,h=>by
  simp only[PyFlat.calls] at h
  cases hc:PyFlat.call shape (p::r) with
  | none=>rw[hc] at h;cases h
  |
   some ct=>
   obtain⟨c,t⟩:=ct
   rw[hc] at h
   simp only at h
   cases hcs:PyFlat.calls shape f t with
   | none=>rw[hcs] at h;cases h
   |
    some cs=>
    rw[hcs] at h
    have e:=Option.some.inj h
    subst e
    intro raw hr
    rcases List.mem_cons.mp hr with z | z
    ·
     rw[z];exact call_shp hc
    ·
     exact calls_shp f t cs hcs raw z
theorem nats_of {l:List Int}(h:(l.all fun z=>Su112Neutral.natural z 32)=true):l=(l.map Int.toNat).map fun n=>((n:Nat):Int):=by
 rw[List.map_map]
 have:∀z∈l,((fun n:Nat=>(n:Int))∘Int.toNat) z=z:=fun z hz=>by
  have:=List.all_eq_true.mp h z hz
  unfold Su112Neutral.natural at this
  rw[Bool.and_eq_true] at this
  have h0:0≤z:=of_decide_eq_true this.1
  show ((z.toNat:Nat):Int)=z
  omega
 exact (List.map_id l).symm.trans (List.map_congr_left fun z hz=>(this z hz).symm)
theorem nat1 {z:Int}(h:Su112Neutral.natural z 32=true):z=((z.toNat:Nat):Int):=by
 unfold Su112Neutral.natural at h
 rw[Bool.and_eq_true] at h
 have h0:0≤z:=of_decide_eq_true h.1
 omega
theorem raw_call {raw:List (List Int)}(S:Shp raw)(h:Su112Neutral.asked1 ((whole raw).headD [])=true):
  ∃(p:Int) (l:List Nat) (cl:Su112.Call),pyCall raw=(p,l.map fun n=>((n:Nat):Int))∧l.length≤6∧IsCall p l cl∧Su112Neutral.callOf ((whole raw).headD [])=some cl:=by
 cases S with
 |
  row p ys b=>
  have hp:p=0∨p=8∨p=9∨p=12:=of_decide_eq_true b
  rcases hp with rfl | rfl | rfl | rfl
  ·
   have h':(decide (ys.length≤6)&&ys.all fun z=>Su112Neutral.natural z 32)=true:=h
   rw[Bool.and_eq_true] at h'
   exact⟨0,ys.map Int.toNat,_,by rw[←nats_of h'.2];rfl,by rw[List.length_map];exact of_decide_eq_true h'.1,.c0 _,rfl⟩
  ·
   have h':(decide (ys.length≤6)&&ys.all fun z=>Su112Neutral.natural z 32)=true:=h
   rw[Bool.and_eq_true] at h'
   exact⟨8,ys.map Int.toNat,_,by rw[←nats_of h'.2];rfl,by rw[List.length_map];exact of_decide_eq_true h'.1,.c8 _,rfl⟩
  ·
   have h':(decide (ys.length≤6)&&ys.all fun z=>Su112Neutral.natural z 32)=true:=h
   rw[Bool.and_eq_true] at h'
   exact⟨9,ys.map Int.toNat,_,by rw[←nats_of h'.2];rfl,by rw[List.length_map];exact of_decide_eq_true h'.1,.c9 _,rfl⟩
  ·
   have h':(decide (ys.length≤6)&&ys.all fun z=>Su112Neutral.natural z 32)=true:=h
   rw[Bool.and_eq_true] at h'
   exact⟨12,ys.map Int.toNat,_,by rw[←nats_of h'.2];rfl,by rw[List.length_map];exact of_decide_eq_true h'.1,.c12 _,rfl⟩
 |
  plain p ys b hp hl=>
  have hn:¬(p=0∨p=8∨p=9∨p=12):=of_decide_eq_false b
  have hp':p=1∨p=2∨p=3∨p=4∨p=5∨p=6∨p=7∨p=10∨p=11∨p=13∨p=14∨p=15∨p=16∨p=17:=by omega
  have two:AV p=2→∃a b',ys=[a,b']:=fun e=>by
   rw[e] at hl
   match ys,hl with
   | [a,b'],_=>exact⟨a,b',rfl⟩
  have one:AV p=1→∃a,ys=[a]:=fun e=>by
   rw[e] at hl
   match ys,hl with
   | [a],_=>exact⟨a,rfl⟩
  have zero:AV p=0→ys=[]:=fun e=>by
   rw[e] at hl
   exact List.length_eq_zero_iff.mp hl
  rcases hp' with rfl | rfl | rfl | rfl | rfl | rfl | rfl | rfl | rfl | rfl | rfl | rfl | rfl | rfl
  ·
   obtain⟨a,rfl⟩:=one rfl
   have h':(true&&Su112Neutral.natural a 32)=true:=h
   rw[Bool.true_and] at h'
   exact⟨1,[a.toNat],_,by show (1,[a])=(1,[((a.toNat:Nat):Int)]);rw[←nat1 h'],by show 1≤6;decide,.c1 _,rfl⟩
  ·
   obtain⟨a,b',rfl⟩:=two rfl
   have h':(true&&(Su112Neutral.natural a 32&&Su112Neutral.natural b' 32))=true:=h
   rw[Bool.true_and,Bool.and_eq_true] at h'
   exact⟨2,[a.toNat,b'.toNat],_,by show (2,[a,b'])=(2,[((a.toNat:Nat):Int),((b'.toNat:Nat):Int)]);rw[←nat1 h'.1,←nat1 h'.2],by show 2≤6;decide,.c2 _ _,rfl⟩
  ·
   obtain⟨a,b',rfl⟩:=two rfl
   have h':(true&&(Su112Neutral.natural a 32&&Su112Neutral.natural b' 32))=true:=h
   rw[Bool.true_and,Bool.and_eq_true] at h'
   exact⟨3,[a.toNat,b'.toNat],_,by show (3,[a,b'])=(3,[((a.toNat:Nat):Int),((b'.toNat:Nat):Int)]);rw[←nat1 h'.1,←nat1 h'.2],by show 2≤6;decide,.c3 _ _,rfl⟩
  ·
   rw[zero rfl];exact⟨4,[],_,rfl,by decide,.c4,rfl⟩
  ·
   rw[zero rfl];exact⟨5,[],_,rfl,by decide,.c5,rfl⟩
  ·
   rw[zero rfl];exact⟨6,[],_,rfl,by decide,.c6,rfl⟩
  ·
   rw[zero rfl];exact⟨7,[],_,rfl,by decide,.c7,rfl⟩
  ·
   rw[zero rfl];exact⟨10,[],_,rfl,by decide,.c10,rfl⟩
  ·
   obtain⟨a,b',rfl⟩:=two rfl
   have h':(true&&(Su112Neutral.natural a 32&&Su112Neutral.natural b' 32))=true:=h
   rw[Bool.true_and,Bool.and_eq_true] at h'
   exact⟨11,[a.toNat,b'.toNat],_,by show (11,[a,b'])=(11,[((a.toNat:Nat):Int),((b'.toNat:Nat):Int)]);rw[←nat1 h'.1,←nat1 h'.2],by show 2≤6;decide,.c11 _ _,rfl⟩
  ·
   rw[zero rfl];exact⟨13,[],_,rfl,by decide,.c13,rfl⟩
  ·
   rw[zero rfl];exact⟨14,[],_,rfl,by decide,.c14,rfl⟩
  ·
   obtain⟨a,rfl⟩:=one rfl
   have h':(true&&Su112Neutral.natural a 32)=true:=h
   rw[Bool.true_and] at h'
   exact⟨15,[a.toNat],_,by show (15,[a])=(15,[((a.toNat:Nat):Int)]);rw[←nat1 h'],by show 1≤6;decide,.c15 _,rfl⟩
  ·
   rw[zero rfl];exact⟨16,[],_,rfl,by decide,.c16,rfl⟩
  ·
   rw[zero rfl];exact⟨17,[],_,rfl,by decide,.c17,rfl⟩
def after {S:Type}(f:S→List (List Int)→S×List Int)(s:S)(cs:List (List (List Int))):S:=cs.foldl (fun s c=>(f s c).1) s
theorem played_at {S:Type}(f:S→List (List Int)→S×List Int):∀(cs:List (List (List Int))) (s:S) (i:Nat) (c:List (List Int)),cs[i]?=some c→(PyFlat.played f s cs)[i]?=some (f (after f s (cs.take i)) c).2
 | [],s,i,c,h=>by simp at h
 |
  d::cs,s,0,c,h=>by
  have e:d=c:=by simpa using h
  subst e;rfl
 |
  d::cs,s,i+1,c,h=>by
  show (PyFlat.played f (f s d).1 cs)[i]?=_
  exact played_at f cs _ i c (by simpa using h)
theorem after_succ {S:Type}(f:S→List (List Int)→S×List Int)(s:S){cs:List (List (List Int))}{i:Nat}{c:List (List Int)}(h:cs[i]?=some c):after f s (cs.take (i+1))=(f (after f s (cs.take i)) c).1:=by
 rw[AJ h]
 unfold after
 rw[List.foldl_append];rfl
theorem told_append (l m:List (List Int)):PyFlat.told (l++m)=PyFlat.told l++PyFlat.told m:=by unfold PyFlat.told;rw[List.flatMap_append]
theorem told_succ {l:List (List Int)}{i:Nat}{a:List Int}(h:l[i]?=some a):PyFlat.told (l.take (i+1))=PyFlat.told (l.take i)++([((a.length:Nat):Int)]++a):=by
 rw[AJ h,told_append]
 unfold PyFlat.told
 simp
theorem told_le (l:List (List Int))(i:Nat):(PyFlat.told (l.take i)).length≤(PyFlat.told l).length:=by
 have e:PyFlat.told l=PyFlat.told (l.take i)++PyFlat.told (l.drop i):=by rw[←told_append,List.take_append_drop]
 rw[e,List.length_append];omega
def stepW (st:Option Su112.Abs)(c:List (List Int)):Option Su112.Abs×List Int:=Su112Neutral.step st (c.headD [])
theorem stepW_is {st:Option Su112.Abs}{c:List (List Int)}{cl:Su112.Call}(h:Su112Neutral.callOf (c.headD [])=some cl):stepW st c=((Su112.step st cl).1,(Su112.step st cl).2.value::(Su112.step st cl).2.out):=by
 unfold stepW Su112Neutral.step
 rw[h]
theorem asked_facts {l:List Int}(h:answers_asked l=true):∃raws,PyFlat.calls shape l.length l=some raws∧raws.length≤400∧(∀raw∈raws,Su112Neutral.asked1 ((whole raw).headD [])=true)∧
  answers l=PyFlat.told (PyFlat.played stepW none (raws.map whole))∧(answers l).length≤10000000:=by
 unfold answers_asked at h
 cases hc:PyFlat.calls shape l.length l with
 | none=>rw[hc] at h;cases h
 |
  some raws=>
  rw[hc] at h
  simp only[Bool.and_eq_true] at h
  obtain⟨⟨⟨⟨h1,h2⟩,h3⟩,h4⟩,h5⟩:=h
  refine⟨raws,rfl,of_decide_eq_true h2,fun raw hr=>?_,?_,of_decide_eq_true h5⟩
  ·
   unfold Su112Neutral.asked at h4
   rw[Bool.and_eq_true] at h4
   have:=List.all_eq_true.mp h4.2 ((whole raw).headD []) (List.mem_map.mpr ⟨whole raw,List.mem_map.mpr ⟨raw,hr,rfl⟩,rfl⟩)
   exact this
  ·
   unfold answers calls
   rw[hc];rfl
end Rb
namespace Wk
open PySem PySem.Spec PyProof.Rows L2 Rb
abbrev sAns:Stmt:=top 72
section
variable {P:Program}{w:World}{K:PySem.W.Frag}{mg:Str→Option Value}{base:Heap}
structure Mid (P:Program)(w:World)(tb CB x C dx ba t:Addr)(H1 H2 H:Hp)(ca:Addr)(st:Option Su112.Abs)(tl:List Int)(m:Nat):Prop where
 ln:Ln P w tb CB x C dx ca ba H (stC st) (stN st) m
 good:GoodS st
 told:H t=some (.lst (tl.map V.int))
 ne:t≠ca
 kl:∀b xs,H2 b=some (.lst xs)→H1 b=none→H b=some (.lst xs)∧b≠ca
 kt:∀b xs,H2 b=some (.tup xs)→H b=some (.tup xs)
theorem Mid.step {tb CB x C dx ba t:Addr}{H1 H2 H H':Hp}{ca ca':Addr}{st st':Option Su112.Abs}{tl:List Int}{m m':Nat}(M:Mid P w tb CB x C dx ba t H1 H2 H ca st tl m)
  (S:Stp P w tb CB x C dx ca ba H H' ca' (stC st') (stN st') m')(G:GoodS st'):Mid P w tb CB x C dx ba t H1 H2 H' ca' st' tl m':=by
 have lst:∀b xs,H b=some (.lst xs)→b≠ca→H' b=some (.lst xs)∧b≠ca':=fun b xs e hb=>by
  refine⟨S.kp b _ e (fun z=>by rw[z,M.ln.ins] at e;cases e) hb (fun _ z=>by cases z) (fun _ z=>by cases z),?_⟩
  rcases S.new with z | z
  ·
   rw[z];exact hb
  ·
   exact Aj e z
 refine⟨S.ln,G,(lst _ _ M.told M.ne).1,(lst _ _ M.told M.ne).2,fun b xs e h1=>?_,fun b xs e=>?_⟩
 ·
  obtain⟨q1,q2⟩:=M.kl b xs e h1
  exact lst _ _ q1 q2
 ·
  have q:=M.kt b xs e
  exact S.kp b _ q (fun z=>by rw[z,M.ln.ins] at q;cases q) (fun z=>by rw[z,M.ln.ch] at q;cases q) (fun _ z=>by cases z) (fun _ z=>by cases z)
theorem Mid.tell {tb CB x C dx ba t:Addr}{H1 H2 H:Hp}{ca:Addr}{st:Option Su112.Abs}{tl tl':List Int}{m:Nat}(h1:∃o,H1 t=some o)(M:Mid P w tb CB x C dx ba t H1 H2 H ca st tl m):Mid P w tb CB x C dx ba t H1 H2 (upd H t (.lst (tl'.map V.int))) ca st tl' m:=by
 obtain⟨o1,h1⟩:=h1
 refine⟨⟨?_,?_,M.ln.bo.frame fun b o e q _=>?_⟩,M.good,Ab,M.ne,fun b xs e z=>?_,fun b xs e=>?_⟩
 ·
  rw[Ai (fun z=>by have h:=M.ln.ins;rw[z,M.told] at h;cases h)];exact M.ln.ins
 ·
  rw[Ai (Ne.symm M.ne)];exact M.ln.ch
 ·
  rw[Ai (fun z=>by rw[z,M.told] at e;exact q _ (Option.some.inj e).symm)];exact e
 ·
  obtain⟨q1,q2⟩:=M.kl b xs e z
  rw[Ai (Aj h1 z).symm]
  exact⟨q1,q2⟩
 ·
  have q:=M.kt b xs e
  rw[Ai (fun z=>by rw[z,M.told] at q;cases q)];exact q
def spAll (K:PySem.W.Frag)(tb:Addr):Sp:=fun vs H Q _=>∃(la:Addr) (l:List Int),vs=[.ref la]∧SqL K H la (l.map V.int)∧PySu112.answers_asked l=true∧Tab tb lPos lQual H∧∀(H':Hp) (t:Addr),H' t=some (.lst ((PySu112.answers l).map V.int))→Q (.ref t) H'
theorem scAns:Aq ["calls","line","told","number","given","answer"] ["calls"] (Ag sAns):=⟨rfl,rfl,rfl,by decide +kernel,rfl,by decide +kernel,by decide +kernel⟩
theorem seq_off {H H':Hp}{x la C dx:Addr}{xs:List V}(fr:∀b o,H b=some o→b≠x→H' b=some o)(hx:H x=some (.ins C dx []))(h:SqL K H la xs):SqL K H' la xs:=by
 rcases h with (h | ⟨o,h⟩) | h
 ·
  exact .inl (.inl (fr _ _ h (fun z=>by rw[z,hx] at h;cases h)))
 ·
  exact .inl (.inr ⟨o,fr _ _ h (fun z=>by rw[z,hx] at h;cases h)⟩)
 ·
  exact .inr h
theorem ok_ans {f C CB tb fI fS fC:Addr}{fd fdI fdS fdC:FuncData}(F:Fun K "answers" "answers" sAns f fd)(ML:L2.Mk K C fI)(GI:Ah P w K mg base CX0 3 fI fdI ["self"] (spInit P w tb CB C))(bI:An K fdI ["self"] [])(mLn:mg "Line"=some (.ref C))
  (GS:Ah P w K mg base CX0 2 fS fdS ["calls"] (spSplit K))(bS:An K fdS ["calls"] [])(kS:PySem.W.keepIn K (.ref fS)=true)(mS:mg "split_calls"=some (.ref fS))
  (GC:Ah P w K mg base CX0 12 fC fdC ["line","number","given"] (spCall P w tb CB C))(bC:An K fdC ["line","number","given"] [])(kC:PySem.W.keepIn K (.ref fC)=true)(mC:mg "answer_call"=some (.ref fC))(mL:mg "len"=none):
  Ah P w K mg base CX0 13 f fd ["calls"] (spAll K tb):=by
 refine F.ok scAns (fun vs H Q E h=>?_) (fun cdv A outer s H vs Q E hr h=>?_)
 ·
  obtain⟨la,l,rfl,_⟩:=h
  rfl
 ·
  obtain⟨la,l,rfl,hla,hask,tab,k⟩:=h
  have hr2:AM 2 _:=hr.mono (by decide)
  have hr4:AM (3+1) _:=hr.mono (by decide)
  obtain⟨raws,hcalls,h400,hall,hans,hlong⟩:=asked_facts hask
  refine⟨_,Ad (As (i:=1) scAns.nd rfl (Or.inl rfl) (pe_make0 ML GI hr4 rfl mLn bI .nil Ap))<|
   Ad (As (i:=2) scAns.nd rfl (Or.inl rfl) (AD Ac))<|
   Ad (ps_for PassesOwn.never rfl (A1 (Aw GS hr2 rfl mS kS bS .nil Ap (Aa (pv 0) Ac))) (pg_tup rfl (AS (Au (i:=3) scAns.nd rfl (Or.inl rfl)) (AS (Au (i:=4) scAns.nd rfl (Or.inl rfl)) pgs_nil)))<|
    Ad (As (i:=5) scAns.nd rfl (Or.inl rfl) (Aw GC hr rfl mC kC bC .nil Ap (Aa (pv 1) (Aa (pv 3) (Aa (pv 4) Ac)))))<|
    Ad (ps_expr (pe_bm PySem.F.plainAttrs_list PySem.F.slot_list_append PySem.F.type_list_append mt_append (pv 2) (Aa (Az (r:=rLenA K) At rfl mL PySem.boot_len (Aa (pv 5) Ac)) Ac)))<|
    Af (ps_expr (pe_bm PySem.F.plainAttrs_list PySem.F.slot_list_extend PySem.F.type_list_extend mt_extend (pv 2) (Aa (pv 5) Ac))))<|
   Af (Al (pv 2)),?_⟩
  intro x dx hx hdx hne
  have s0:Ae H (upd H dx (.own x)):=Ae.upd hdx
  have hx0:(upd H dx (.own x)) x=none:=by rw[Ai (Ne.symm hne)];exact hx
  have sA:=Ae.trans s0 (Ae.upd (o:=.ins C dx []) hx0)
  refine⟨x,dx,rfl,Ab,tab.same sA,fun H0 ca ba L0 kp0 hca=>⟨rfl,?_⟩⟩
  have hla0:SqL K H0 la (l.map V.int):=seq_off (x:=x) (C:=C) (dx:=dx) kp0 Ab (Ae.seq sA hla)
  refine⟨Nat.zero_le _,fun t ht=>?_⟩
  have s1:Ae H0 (upd H0 t (.lst [])):=Ae.upd ht
  have L1:=L0.same s1
  have hla1:=Ae.seq s1 hla0
  have t1:(upd H0 t (.lst [])) t=some (.lst []):=Ab
  have tne:t≠ca:=Ne.symm (Aj L0.ch ht)
  generalize (upd H0 t (.lst []))=H1 at s1 L1 hla1 t1
  refine⟨_,rfl,la,l,raws,rfl,hla1,hcalls,h400,fun H2 g s2 hg hlst=>?_⟩
  obtain⟨ts,hts,hpt⟩:=hlst
  have hlen:ts.length=raws.length:=by rw[hpt.length,List.length_map]
  have M0:Mid P w tb CB x C dx ba t H1 H2 H2 ca (after stepW none ((raws.map PySu112.whole).take 0)) (PyFlat.told ((PyFlat.played stepW none (raws.map PySu112.whole)).take 0)) 0:=
   ⟨L1.same s2,(fun a h=>by cases h),s2 _ _ t1,tne,fun b xs e z=>⟨e,fun q=>by rw[q,L1.ch] at z;cases z⟩,fun b xs e=>e⟩
  refine⟨g,rfl,⟨_,SqL.of hts⟩,for_list (K:=K) (a:=g) (xs:=ts.map V.ref) (fun i σ H'=>∃(ca':Addr) (v3 v4 v5:Option V),σ=[some (.ref la),some (.ref x),some (.ref t),v3,v4,v5]∧
    Mid P w tb CB x C dx ba t H1 H2 H' ca' (after stepW none ((raws.map PySu112.whole).take i)) (PyFlat.told ((PyFlat.played stepW none (raws.map PySu112.whole)).take i)) (1000*i))
   ⟨ca,none,none,none,rfl,M0⟩ (fun i σ H' _ q=>by
    obtain⟨_,_,_,_,_,M⟩:=q
    exact SqL.of (M.kl _ _ hts hg).1) ?_ ?_⟩
  ·
   rintro i y σ H3 hi ⟨ca3,v3,v4,v5,rfl,M⟩
   obtain⟨u,hu,rfl⟩:=AL hi
   obtain⟨pc,hpc,hcg⟩:=AF hpt hu
   obtain⟨raw,hraw,rfl⟩:∃raw,raws[i]?=some raw∧pyCall raw=pc:=by
    rw[List.getElem?_map] at hpc
    exact Option.map_eq_some_iff.mp hpc
   have hrm:=List.mem_of_getElem? hraw
   have hil:i<raws.length:=by
    rcases Nat.lt_or_ge i raws.length with z | z
    ·
     exact z
    ·
     rw[List.getElem?_eq_none z] at hraw;cases hraw
   obtain⟨p,ln,cl,hpy,h6,hcl,hco⟩:=raw_call (calls_shp _ _ _ hcalls raw hrm) (hall raw hrm)
   obtain⟨_,ga,⟨_,hga1⟩,hu2,hga2⟩:=hcg
   rw[hpy] at hu2 hga2
   have hga3:=(M.kl _ _ hga2 hga1).1
   have eints:(ln.map fun n=>((n:Nat):Int)).map V.int=ln.map nV:=by rw[List.map_map];rfl
   rw[eints] at hga3
   have hwat:(raws.map PySu112.whole)[i]?=some (PySu112.whole raw):=by rw[List.getElem?_map,hraw];rfl
   have hst:=stepW_is (st:=after stepW none ((raws.map PySu112.whole).take i)) hco
   have hpl:=played_at stepW (raws.map PySu112.whole) none i _ hwat
   have htl:=told_succ hpl
   have hle:=told_le (PyFlat.played stepW none (raws.map PySu112.whole)) (i+1)
   rw[←hans] at hle
   have haf:=after_succ stepW none hwat
   have Gn:GoodS (Su112.step (after stepW none ((raws.map PySu112.whole).take i)) cl).1:=good_step M.good cl
   rw[hst] at htl haf
   generalize hSi:after stepW none ((raws.map PySu112.whole).take i)=Si at M htl haf Gn
   refine⟨u,_,rfl,SqT.of (M.kt _ _ hu2),rfl,_,_,rfl,_,_,rfl,rfl,?_⟩
   refine⟨_,rfl,_,rfl,_,rfl,x,ga,dx,ca3,ba,p,ln,cl,Si,1000*i,rfl,hga3,h6,hcl,M.ln,M.good,by omega,fun H4 q ca4 S4 nq at4=>?_⟩
   have M4:=M.step S4 Gn
   have nqt:t≠q:=nq t _ M.told
   have hlv:(ansL (Su112.step Si cl).2).length=((Su112.step Si cl).2.value::(Su112.step Si cl).2.out).length:=by unfold ansL;rw[List.length_map]
   rw[htl,List.length_append,List.length_append] at hle
   have hsz:(10000000:Nat)<sizeLine:=by decide
   refine⟨_,rfl,.inl ⟨rfl,_,SqL.of M4.told⟩,_,rfl,q,_,rfl,.inl (SqL.of at4),t,_,_,rfl,rfl,M4.told,?_,?_⟩
   ·
    rw[List.length_map];omega
   rw[hlv]
   have e1:((PyFlat.told ((PyFlat.played stepW none (raws.map PySu112.whole)).take i)).map V.int)++[V.int ((((Su112.step Si cl).2.value::(Su112.step Si cl).2.out).length:Nat):Int)]=
     (PyFlat.told ((PyFlat.played stepW none (raws.map PySu112.whole)).take i)++[((((Su112.step Si cl).2.value::(Su112.step Si cl).2.out).length:Nat):Int)]).map V.int:=by rw[List.map_append];rfl
   rw[e1]
   have M5:=M4.tell (tl':=PyFlat.told ((PyFlat.played stepW none (raws.map PySu112.whole)).take i)++[((((Su112.step Si cl).2.value::(Su112.step Si cl).2.out).length:Nat):Int)]) ⟨_,t1⟩
   have at5:(upd H4 t (.lst ((PyFlat.told ((PyFlat.played stepW none (raws.map PySu112.whole)).take i)++[((((Su112.step Si cl).2.value::(Su112.step Si cl).2.out).length:Nat):Int)]).map V.int))) q=some (.lst (ansL (Su112.step Si cl).2)):=by
    rw[Ai (Ne.symm nqt)];exact at4
   refine⟨_,rfl,.inl ⟨rfl,_,SqL.of M5.told⟩,_,rfl,t,q,_,_,rfl,rfl,M5.told,at5,?_,?_⟩
   ·
    rw[List.length_map,List.length_append,hlv]
    simp only[List.length_cons,List.length_nil] at hle ⊢
    omega
   have e2:((PyFlat.told ((PyFlat.played stepW none (raws.map PySu112.whole)).take i)++[((((Su112.step Si cl).2.value::(Su112.step Si cl).2.out).length:Nat):Int)]).map V.int)++ansL (Su112.step Si cl).2=
     (PyFlat.told ((PyFlat.played stepW none (raws.map PySu112.whole)).take (i+1))).map V.int:=by
    rw[htl]
    unfold ansL
    rw[←List.map_append,List.append_assoc]
   rw[e2]
   have M6:=M5.tell (tl':=PyFlat.told ((PyFlat.played stepW none (raws.map PySu112.whole)).take (i+1))) ⟨_,t1⟩
   refine⟨ca4,some (.int p),some (.ref ga),some (.ref q),rfl,?_⟩
   rw[haf]
   exact M6
  ·
   rintro σ H3 ⟨ca3,v3,v4,v5,rfl,M⟩
   rw[List.length_map,hlen] at M
   have e:(PyFlat.played stepW none (raws.map PySu112.whole)).take raws.length=PyFlat.played stepW none (raws.map PySu112.whole):=by
    apply List.take_of_length_le
    have:∀(cs:List (List (List Int))) (s:Option Su112.Abs),(PyFlat.played stepW s cs).length=cs.length:=by
     intro cs
     induction cs with
     | nil=>intro s;rfl
     | cons c cs ih=>intro s;show (PyFlat.played stepW (stepW s c).1 cs).length+1=cs.length+1;rw[ih]
    rw[this,List.length_map];exact Nat.le_refl _
   have ht:=M.told
   rw[e,←hans] at ht
   exact⟨_,rfl,k H3 t ht⟩
end
end Wk
namespace L2
open PySem PySem.Spec PyProof.Rows
open PySem.W (WData Codec OpenSpec Well WellAll ReadsW ReadsAllW)
mutual
inductive Dw (K:PySem.W.Frag)(H:Hp):V→WData→Prop
 | non:Dw K H .non .none
 | bl (b:Bool):Dw K H (.bl b) (.bool b)
 | int (i:Int):Dw K H (.int i) (.int i)
 | str (x:Str):Dw K H (.str x) (.str x)
 | byt (b:Array UInt8):Dw K H (.byt b) (.bytes b.toList)
 | lst {a:Addr} {xs:List V} {ds:List WData}:SqL K H a xs→DwAll K H xs ds→Dw K H (.ref a) (.list ds)
 | tup {a:Addr} {xs:List V} {ds:List WData}:SqT K H a xs→DwAll K H xs ds→Dw K H (.ref a) (.tuple ds)
inductive DwAll (K:PySem.W.Frag)(H:Hp):List V→List WData→Prop
 | nil:DwAll K H [] []
 | cons {v:V} {vs:List V} {d:WData} {ds:List WData}:Dw K H v d→DwAll K H vs ds→DwAll K H (v::vs) (d::ds)
end
theorem dw_ints {K:PySem.W.Frag}{H:Hp}:∀ns:List Int,DwAll K H (ns.map V.int) (ns.map WData.int)
 | []=>.nil
 | n::r=>.cons (.int n) (dw_ints r)
theorem ints_dw {K:PySem.W.Frag}{H:Hp}:∀(ns:List Int) (xs:List V),DwAll K H xs (ns.map WData.int)→xs=ns.map V.int
 |
  [],xs,h=>by
  cases h
  rfl
 |
  n::r,xs,h=>by
  cases h with
  |
   cons h1 h2=>
   cases h1
   rw[ints_dw r _ h2]<;>rfl
section
variable {P:Program}{w:World}{K:PySem.W.Frag}{H:Hp}{h:Heap}{R:PySem.W.WRecords}{cl:Str→Option Addr}
theorem sqL_at {a:Addr}{xs:List V}(hok:HOk P w H h)(KX:K.In h)(q:SqL K H a xs):∃(its:List Value) (o:Obj) (n:Nat),AG xs its∧h.get? a=some o∧o.cls=.type "list"∧o.data=.seq its.toArray n:=by
 rcases q with q | ⟨o,its,n,e,hc,_,hd,_,hv⟩
 ·
  obtain⟨_,its,n,hv,e⟩:=(show ObjOk P w H h a (.lst xs) from q.ok hok)
  exact⟨its,_,n,hv,e,rfl,rfl⟩
 ·
  exact⟨its.toList,o,n,hv,KX _ _ e,hc,by simp[hd]⟩
theorem sqT_at {a:Addr}{xs:List V}(hok:HOk P w H h)(KX:K.In h)(q:SqT K H a xs):∃(its:List Value) (o:Obj) (n:Nat),AG xs its∧h.get? a=some o∧o.cls=.type "tuple"∧o.data=.seq its.toArray n:=by
 rcases q with q | ⟨o,its,n,e,hc,hd,_,hv⟩
 ·
  obtain⟨_,its,hv,⟨o,e,hc,n,hd⟩,_⟩:=(show ObjOk P w H h a (.tup xs) from q.ok hok)
  exact⟨its,o,n,hv,e,hc,hd⟩
 ·
  exact⟨its.toList,o,n,hv,KX _ _ e,hc,by simp[hd]⟩
mutual
theorem Dw.reads (hok:HOk P w H h)(KX:K.In h):∀(d:WData) (v:V) (u:Value),Dw K H v d→AW v u→∃as,ReadsW R cl h u d as
 |
  .none,_,_,x,r=>by
  cases x
  cases r
  exact⟨_,ReadsW.none⟩
 |
  .bool b,_,_,x,r=>by
  cases x
  cases r
  exact⟨_,ReadsW.bool b⟩
 |
  .int i,_,_,x,r=>by
  cases x
  obtain⟨t,rfl⟩:=r
  exact⟨_,ReadsW.int i t⟩
 |
  .str s,_,_,x,r=>by
  cases x
  obtain⟨t,rfl⟩:=r
  exact⟨_,ReadsW.str s t⟩
 |
  .bytes b,_,_,x,r=>by
  cases x
  obtain⟨t,rfl⟩:=r
  exact⟨_,ReadsW.bytes _ t⟩
 |
  .list ds,_,_,x,r=>by
  cases x with
  |
   lst hs ha=>
   cases r
   obtain⟨its,o,n,rv,ho,hc,hd⟩:=sqL_at hok KX hs
   obtain⟨as,hr⟩:=Dw.readsAll hok KX ds _ its ha rv
   exact⟨_,ReadsW.list ho hc hd hr⟩
 |
  .tuple ds,_,_,x,r=>by
  cases x with
  |
   tup hs ha=>
   cases r
   obtain⟨its,o,n,rv,ho,hc,hd⟩:=sqT_at hok KX hs
   obtain⟨as,hr⟩:=Dw.readsAll hok KX ds _ its ha rv
   exact⟨_,ReadsW.tuple ho hc hd hr⟩
 | .float _,_,_,x,_=>by cases x
 | .dict _,_,_,x,_=>by cases x
 | .bytearray _,_,_,x,_=>by cases x
 | .set _,_,_,x,_=>by cases x
 | .frozenset _,_,_,x,_=>by cases x
 | .obj _ _,_,_,x,_=>by cases x
theorem Dw.readsAll (hok:HOk P w H h)(KX:K.In h):∀(ds:List WData) (vs:List V) (us:List Value),DwAll K H vs ds→AG vs us→∃as,ReadsAllW R cl h us ds as
 |
  [],_,_,x,r=>by
  cases x
  cases r
  exact⟨_,ReadsAllW.nil⟩
 |
  d::ds,_,_,x,r=>by
  cases x with
  |
   cons h1 h2=>
   cases r with
   |
    cons r1 r2=>
    obtain⟨as,q1⟩:=Dw.reads hok KX d _ _ h1 r1
    obtain⟨bs,q2⟩:=Dw.readsAll hok KX ds _ _ h2 r2
    exact⟨_,ReadsAllW.cons q1 q2⟩
end
end
mutual
def plW:WData→Bool
 | .none=>true
 | .bool _=>true
 | .int _=>true
 | .str _=>true
 | .bytes _=>true
 | .list xs=>plWs xs
 | .tuple xs=>plWs xs
 | _=>false
def plWs:List WData→Bool
 | []=>true
 | x::r=>plW x&&plWs r
end
theorem plWs_map {α:Type}{f:α→WData}(h:∀a,plW (f a)=true):∀l:List α,plWs (l.map f)=true
 | []=>rfl
 |
  x::r=>by
  show (plW (f x)&&plWs (r.map f))=true
  rw[h x,plWs_map h r]<;>rfl
theorem pl_enc:∀(c:Codec) (a:c.denote),plW (c.enc a)=true
 | .unit,_=>rfl
 | .bool,_=>rfl
 | .int _ _,_=>rfl
 | .nat _ _,_=>rfl
 | .u8,_=>rfl
 | .bytes _ _,_=>rfl
 | .text _ _ _ _,_=>rfl
 | .list _ _ c,a=>plWs_map (fun x=>pl_enc c x) a
 |
  .pair c d,a=>by
  show (plW (c.enc a.1)&&(plW (d.enc a.2)&&true))=true
  rw[pl_enc c a.1,pl_enc d a.2]<;>rfl
 |
  .triple c d e,a=>by
  show (plW (c.enc a.1)&&(plW (d.enc a.2.1)&&(plW (e.enc a.2.2)&&true)))=true
  rw[pl_enc c a.1,pl_enc d a.2.1,pl_enc e a.2.2]<;>rfl
 | .option c,none=>rfl
 | .option c,some x=>pl_enc c x
theorem pl_encAll:∀(cs:List Codec) (a:Codec.denoteAll cs),plWs (Codec.encAll cs a)=true
 | [],_=>rfl
 |
  c::cs,a=>by
  show (plW (c.enc a.1)&&plWs (Codec.encAll cs a.2))=true
  rw[pl_enc c a.1,pl_encAll cs a.2]<;>rfl
theorem weight_mem:∀{xs:List WData} {d:WData},d∈xs→d.weight≤WData.weightAll xs
 | [],d,h=>absurd h (by simp)
 |
  x::r,d,h=>by
  show d.weight≤x.weight+1+WData.weightAll r
  rcases List.mem_cons.mp h with e | m
  ·
   rw[e]
   omega
  ·
   have z:=weight_mem m
   omega
def toV:Value→V
 | .none=>.non
 | .bool b=>.bl b
 | .int i _=>.int i
 | .str x _=>.str x
 | .bytes b _=>.byt b
 | .ref a=>.ref a
 | _=>.non
def OkU (A:List Addr):Value→Prop
 | .none=>True
 | .bool _=>True
 | .int _ _=>True
 | .str _ _=>True
 | .bytes _ _=>True
 | .ref a=>a∈A
 | _=>False
theorem OkU.mono {A B:List Addr}(h:∀a∈A,a∈B):∀{u:Value},OkU A u→OkU B u:=fun {u} x=>by
 cases u with
 | ref a=>exact h a x
 | none=>trivial
 | bool b=>trivial
 | int i t=>trivial
 | str s t=>trivial
 | bytes b t=>trivial
 | _=>exact False.elim x
theorem relV_toV {A:List Addr}{u:Value}(x:OkU A u):AW (toV u) u:=by
 cases u with
 | ref a=>rfl
 | none=>rfl
 | bool b=>rfl
 | int i t=>exact⟨t,rfl⟩
 | str s t=>exact⟨t,rfl⟩
 | bytes b t=>exact⟨t,rfl⟩
 | _=>exact False.elim x
theorem vals_toV {A:List Addr}:∀{vs:List Value},(∀u∈vs,OkU A u)→AG (vs.map toV) vs
 | [],_=>.nil
 | u::r,h=>.cons (relV_toV (h u (List.mem_cons_self ..))) (vals_toV fun x hx=>h x (List.mem_cons_of_mem _ hx))
def ArgOb (h:Heap)(A:List Addr)(a:Addr):Prop:=∃vs:List Value,vs.length≤sizeLine∧(∀u∈vs,OkU A u)∧
 (h.get? a=some {cls:=.type "list",data:=.seq vs.toArray}∨h.get? a=some {cls:=.type "tuple",data:=.seq vs.toArray})
theorem ArgOb.mono {h:Heap}{A B:List Addr}{a:Addr}(k:∀a∈A,a∈B)(x:ArgOb h A a):ArgOb h B a:=by
 obtain⟨vs,h1,h2,h3⟩:=x
 exact⟨vs,h1,fun u hu=>(h2 u hu).mono k,h3⟩
theorem wellAll_len {P:Params}{h:Heap}:∀{vs:List Value} {ds:List WData},WellAll P h vs ds→vs.length=ds.length
 | _,_,.nil=>rfl
 |
  _,_,.cons _ b=>by
  show _+1=_+1
  rw[wellAll_len b]
theorem well_list {P:Params}{h:Heap}{v:Value}{ds:List WData}(x:Well P h v (.list ds)):∃(a:Addr) (vs:List Value),v=.ref a∧h.get? a=some {cls:=.type "list",data:=.seq vs.toArray}∧WellAll P h vs ds:=by
 cases x with
 | list ho hall=>exact⟨_,_,rfl,ho,hall⟩
theorem well_tuple {P:Params}{h:Heap}{v:Value}{ds:List WData}(x:Well P h v (.tuple ds)):∃(a:Addr) (vs:List Value),v=.ref a∧h.get? a=some {cls:=.type "tuple",data:=.seq vs.toArray}∧WellAll P h vs ds:=by
 cases x with
 | tuple ho hall=>exact⟨_,_,rfl,ho,hall⟩
theorem well_cons {P:Params}{h:Heap}{us:List Value}{d:WData}{ds:List WData}(x:WellAll P h us (d::ds)):∃(v:Value) (vs:List Value),us=v::vs∧Well P h v d∧WellAll P h vs ds:=by
 cases x with
 | cons a b=>exact⟨_,_,rfl,a,b⟩
theorem line_of {n:Nat}(h:n≤1048576):n≤sizeLine:=Nat.le_trans h (by decide)
section
variable {P:Params}{h:Heap}
mutual
theorem area_one:∀(d:WData) (v:Value),Well P h v d→plW d=true→d.weight≤1048576→∃A:List Addr,OkU A v∧∀a∈A,ArgOb h A a
 |
  .none,_,x,_,_=>by
  cases x
  exact⟨[],trivial,fun a m=>absurd m (by simp)⟩
 |
  .bool b,_,x,_,_=>by
  cases x
  exact⟨[],trivial,fun a m=>absurd m (by simp)⟩
 |
  .int i,_,x,_,_=>by
  cases x
  exact⟨[],trivial,fun a m=>absurd m (by simp)⟩
 |
  .str s,_,x,_,_=>by
  cases x
  exact⟨[],trivial,fun a m=>absurd m (by simp)⟩
 |
  .bytes b,_,x,_,_=>by
  cases x
  exact⟨[],trivial,fun a m=>absurd m (by simp)⟩
 |
  .list ds,_,x,p,z=>by
  obtain⟨a,vs,rfl,ho,hall⟩:=well_list x
  have z2:WData.weightAll ds≤1048576:=z
  obtain⟨A,h1,h2⟩:=area_all ds _ hall p fun d hd=>Nat.le_trans (weight_mem hd) z2
  have k:∀b∈A,b∈a::A:=fun b hb=>List.mem_cons_of_mem _ hb
  refine⟨a::A,List.mem_cons_self ..,fun b hb=>?_⟩
  rcases List.mem_cons.mp hb with e | m
  ·
   rw[e]
   exact⟨vs,line_of (by rw[wellAll_len hall];exact Nat.le_trans (PySem.W.length_le_weightAllW ds) z2),fun u hu=>(h1 u hu).mono k,.inl ho⟩
  ·
   exact (h2 b m).mono k
 |
  .tuple ds,_,x,p,z=>by
  obtain⟨a,vs,rfl,ho,hall⟩:=well_tuple x
  have z2:WData.weightAll ds≤1048576:=z
  obtain⟨A,h1,h2⟩:=area_all ds _ hall p fun d hd=>Nat.le_trans (weight_mem hd) z2
  have k:∀b∈A,b∈a::A:=fun b hb=>List.mem_cons_of_mem _ hb
  refine⟨a::A,List.mem_cons_self ..,fun b hb=>?_⟩
  rcases List.mem_cons.mp hb with e | m
  ·
   rw[e]
   exact⟨vs,line_of (by rw[wellAll_len hall];exact Nat.le_trans (PySem.W.length_le_weightAllW ds) z2),fun u hu=>(h1 u hu).mono k,.inr ho⟩
  ·
   exact (h2 b m).mono k
 | .float _,_,_,p,_=>Bool.noConfusion (show false=true from p)
 | .dict _,_,_,p,_=>Bool.noConfusion (show false=true from p)
 | .bytearray _,_,_,p,_=>Bool.noConfusion (show false=true from p)
 | .set _,_,_,p,_=>Bool.noConfusion (show false=true from p)
 | .frozenset _,_,_,p,_=>Bool.noConfusion (show false=true from p)
 | .obj _ _,_,_,p,_=>Bool.noConfusion (show false=true from p)
theorem area_all:∀(ds:List WData) (vs:List Value),WellAll P h vs ds→plWs ds=true→(∀d∈ds,d.weight≤1048576)→∃A:List Addr,(∀u∈vs,OkU A u)∧∀a∈A,ArgOb h A a
 |
  [],_,x,_,_=>by
  cases x
  exact⟨[],fun u m=>absurd m (by simp),fun a m=>absurd m (by simp)⟩
 |
  d::ds,_,x,p,z=>by
  obtain⟨v,vs,rfl,x1,x2⟩:=well_cons x
  have q:plW d=true∧plWs ds=true:=Bool.and_eq_true_iff.mp p
  obtain⟨A,a1,a2⟩:=area_one d v x1 q.1 (z d (List.mem_cons_self ..))
  obtain⟨B,b1,b2⟩:=area_all ds vs x2 q.2 fun e he=>z e (List.mem_cons_of_mem _ he)
  have kA:∀b∈A,b∈A++B:=fun b hb=>List.mem_append.mpr (.inl hb)
  have kB:∀b∈B,b∈A++B:=fun b hb=>List.mem_append.mpr (.inr hb)
  refine⟨A++B,fun u hu=>?_,fun b hb=>?_⟩
  ·
   rcases List.mem_cons.mp hu with e | m
   ·
    rw[e]
    exact a1.mono kA
   ·
    exact (b1 u m).mono kB
  ·
   rcases List.mem_append.mp hb with m | m
   ·
    exact (a2 b m).mono kA
   ·
    exact (b2 b m).mono kB
end
end
def hoOf (o:Obj):Option HO:=match o.data with
 | .seq vs _=>if (o.cls==Value.type "list")=true then some (.frz o (.lst (vs.toList.map toV))) else some (.frz o (.tup (vs.toList.map toV)))
 | _=>none
def argH (K:PySem.W.Frag)(h:Heap)(A:List Addr):Hp:=fun b=>if b∈A then (if (K.lookup b).isNone=true then (h.get? b).bind hoOf else none) else none
def OnlyF (H:Hp):Prop:=∀b,H b=none∨∃o u,H b=some (.frz o u)
theorem hoOf_lst (vs:List Value):hoOf {cls:=.type "list",data:=.seq vs.toArray}=some (.frz {cls:=.type "list",data:=.seq vs.toArray} (.lst (vs.map toV))):=by
 show (if (Value.type "list"==Value.type "list")=true then some (HO.frz {cls:=.type "list",data:=.seq vs.toArray} (.lst (vs.toArray.toList.map toV))) else some (HO.frz {cls:=.type "list",data:=.seq vs.toArray} (.tup (vs.toArray.toList.map toV))))=_
 rw[if_pos (beq_self_eq_true _)]
theorem hoOf_tup (vs:List Value):hoOf {cls:=.type "tuple",data:=.seq vs.toArray}=some (.frz {cls:=.type "tuple",data:=.seq vs.toArray} (.tup (vs.map toV))):=by
 show (if (Value.type "tuple"==Value.type "list")=true then some (HO.frz {cls:=.type "tuple",data:=.seq vs.toArray} (.lst (vs.toArray.toList.map toV))) else some (HO.frz {cls:=.type "tuple",data:=.seq vs.toArray} (.tup (vs.toArray.toList.map toV))))=_
 rw[if_neg (by decide)]
section
variable {P:Program}{w:World}{K:PySem.W.Frag}{h:Heap}{A:List Addr}
theorem argH_at {b:Addr}{o:Obj}(hb:b∈A)(hk:K.lookup b=none)(e:h.get? b=some o):argH K h A b=hoOf o:=by
 unfold argH
 rw[if_pos hb,hk,if_pos (show (none:Option Obj).isNone=true from rfl),e]<;>rfl
theorem of_argH {b:Addr}{u:HO}(q:argH K h A b=some u):b∈A∧K.lookup b=none:=by
 unfold argH at q
 by_cases hb:b∈A
 ·
  rw[if_pos hb] at q
  cases hk:K.lookup b with
  | none=>exact⟨hb,rfl⟩
  |
   some o=>
   rw[hk,if_neg (by simp)] at q
   cases q
 ·
  rw[if_neg hb] at q
  cases q
theorem argH_is (ar:∀a∈A,ArgOb h A a){b:Addr}{u:HO}(q:argH K h A b=some u):K.lookup b=none∧∃vs:List Value,vs.length≤sizeLine∧(∀u∈vs,OkU A u)∧
  (
   (h.get? b=some {cls:=.type "list",data:=.seq vs.toArray}∧u=.frz {cls:=.type "list",data:=.seq vs.toArray} (.lst (vs.map toV)))∨
   (h.get? b=some {cls:=.type "tuple",data:=.seq vs.toArray}∧u=.frz {cls:=.type "tuple",data:=.seq vs.toArray} (.tup (vs.map toV)))):=by
 obtain⟨hb,hk⟩:=of_argH q
 obtain⟨vs,h1,h2,h3⟩:=ar b hb
 refine⟨hk,vs,h1,h2,?_⟩
 rcases h3 with e | e
 ·
  rw[argH_at hb hk e,hoOf_lst] at q
  exact .inl ⟨e,(Option.some.inj q).symm⟩
 ·
  rw[argH_at hb hk e,hoOf_tup] at q
  exact .inr ⟨e,(Option.some.inj q).symm⟩
theorem argH_only (ar:∀a∈A,ArgOb h A a):OnlyF (argH K h A):=fun b=>by
 cases q:argH K h A b with
 | none=>exact .inl rfl
 |
  some u=>
  obtain⟨_,vs,_,_,⟨_,e⟩ | ⟨_,e⟩⟩:=argH_is ar q
  ·
   exact .inr ⟨_,_,by rw[e]⟩
  ·
   exact .inr ⟨_,_,by rw[e]⟩
theorem argH_ok (ar:∀a∈A,ArgOb h A a):HOk P w (argH K h A) h:=fun b u q=>by
 obtain⟨_,vs,h1,h2,⟨e,rfl⟩ | ⟨e,rfl⟩⟩:=argH_is ar q
 ·
  exact⟨e,by rw[List.length_map];exact h1,vs,_,vals_toV h2,e⟩
 ·
  exact⟨e,by rw[List.length_map];exact h1,vs,vals_toV h2,⟨_,e,rfl,_,rfl⟩,fun o z=>by rw[e] at z;cases z;rfl⟩
theorem seq_inj {c c':Value}{vs us:List Value}(e:(some {cls:=c,data:=.seq vs.toArray}:Option Obj)=some {cls:=c',data:=.seq us.toArray}):c=c'∧vs=us:=by
 have e1:=Option.some.inj e
 have e2:c=c':=congrArg Obj.cls e1
 have e3:Data.seq vs.toArray=Data.seq us.toArray:=congrArg Obj.data e1
 injection e3 with e4
 refine⟨e2,?_⟩
 have e5:=congrArg Array.toList e4
 simpa using e5
theorem argL (KX:K.In h)(ar:∀a∈A,ArgOb h A a){a:Addr}{vs:List Value}(ha:a∈A)(e:h.get? a=some {cls:=.type "list",data:=.seq vs.toArray}):(∀u∈vs,OkU A u)∧SqL K (argH K h A) a (vs.map toV):=by
 obtain⟨us,h1,h2,h3⟩:=ar a ha
 have hu:us=vs:=by
  rcases h3 with q | q
  ·
   rw[e] at q
   exact (seq_inj q).2.symm
  ·
   rw[e] at q
   exact absurd (Value.type.inj (seq_inj q).1) (by decide)
 subst hu
 refine⟨h2,?_⟩
 cases hk:K.lookup a with
 | none=>exact .inl (.inr ⟨_,by rw[argH_at ha hk e,hoOf_lst]⟩)
 |
  some o=>
  have e2:=KX a o hk
  rw[e] at e2
  obtain rfl:=Option.some.inj e2
  exact .inr ⟨_,us.toArray,_,hk,rfl,rfl,rfl,by rw[List.size_toArray];exact h1,by simpa using vals_toV h2⟩
theorem argT (KX:K.In h)(ar:∀a∈A,ArgOb h A a){a:Addr}{vs:List Value}(ha:a∈A)(e:h.get? a=some {cls:=.type "tuple",data:=.seq vs.toArray}):(∀u∈vs,OkU A u)∧SqT K (argH K h A) a (vs.map toV):=by
 obtain⟨us,h1,h2,h3⟩:=ar a ha
 have hu:us=vs:=by
  rcases h3 with q | q
  ·
   rw[e] at q
   exact absurd (Value.type.inj (seq_inj q).1) (by decide)
  ·
   rw[e] at q
   exact (seq_inj q).2.symm
 subst hu
 refine⟨h2,?_⟩
 cases hk:K.lookup a with
 | none=>exact .inl (.inr ⟨_,by rw[argH_at ha hk e,hoOf_tup]⟩)
 |
  some o=>
  have e2:=KX a o hk
  rw[e] at e2
  obtain rfl:=Option.some.inj e2
  exact .inr ⟨_,us.toArray,_,hk,rfl,rfl,by rw[List.size_toArray];exact h1,by simpa using vals_toV h2⟩
mutual
theorem dw_one {Pm:Params}(KX:K.In h)(ar:∀a∈A,ArgOb h A a):∀(d:WData) (v:Value),Well Pm h v d→plW d=true→OkU A v→Dw K (argH K h A) (toV v) d
 |
  .none,_,x,_,_=>by
  cases x
  exact .non
 |
  .bool b,_,x,_,_=>by
  cases x
  exact .bl b
 |
  .int i,_,x,_,_=>by
  cases x
  exact .int i
 |
  .str s,_,x,_,_=>by
  cases x
  exact .str s
 |
  .bytes b,_,x,_,_=>by
  cases x
  have z:=Dw.byt (K:=K) (H:=argH K h A) b.toArray
  exact z
 |
  .list ds,_,x,p,hu=>by
  obtain⟨a,vs,rfl,ho,hall⟩:=well_list x
  obtain⟨h2,hs⟩:=argL KX ar hu ho
  exact .lst hs (dw_all KX ar ds _ hall p h2)
 |
  .tuple ds,_,x,p,hu=>by
  obtain⟨a,vs,rfl,ho,hall⟩:=well_tuple x
  obtain⟨h2,hs⟩:=argT KX ar hu ho
  exact .tup hs (dw_all KX ar ds _ hall p h2)
 | .float _,_,_,p,_=>Bool.noConfusion (show false=true from p)
 | .dict _,_,_,p,_=>Bool.noConfusion (show false=true from p)
 | .bytearray _,_,_,p,_=>Bool.noConfusion (show false=true from p)
 | .set _,_,_,p,_=>Bool.noConfusion (show false=true from p)
 | .frozenset _,_,_,p,_=>Bool.noConfusion (show false=true from p)
 | .obj _ _,_,_,p,_=>Bool.noConfusion (show false=true from p)
theorem dw_all {Pm:Params}(KX:K.In h)(ar:∀a∈A,ArgOb h A a):∀(ds:List WData) (vs:List Value),WellAll Pm h vs ds→plWs ds=true→(∀u∈vs,OkU A u)→DwAll K (argH K h A) (vs.map toV) ds
 |
  [],_,x,_,_=>by
  cases x
  exact .nil
 |
  d::ds,_,x,p,hu=>by
  obtain⟨v,vs,rfl,x1,x2⟩:=well_cons x
  have q:plW d=true∧plWs ds=true:=Bool.and_eq_true_iff.mp p
  exact .cons (dw_one KX ar d v x1 q.1 (hu _ (List.mem_cons_self ..))) (dw_all KX ar ds vs x2 q.2 fun u m=>hu u (List.mem_cons_of_mem _ m))
end
end
theorem layable_weight {ds:List WData}(h:WData.layableAll ds=true):∀d∈ds,d.weight≤1048576:=fun d hd=>
 (PySem.W.layableW_iff.mp (List.all_eq_true.mp h d hd)).2.2
theorem encAll_len:∀(cs:List Codec) (a:Codec.denoteAll cs),(Codec.encAll cs a).length=cs.length
 | [],_=>rfl
 |
  c::cs,a=>by
  show (Codec.encAll cs a.2).length+1=cs.length+1
  rw[encAll_len cs a.2]
end L2
namespace L2
open PySem PySem.Spec PyProof.Rows
open PySem.W (WData Codec OpenSpec Well WellAll ReadsW ReadsAllW)
mutual
theorem Dw.same {K:PySem.W.Frag}{H H':Hp}(s:Wk.Ak H H'):∀{v:V} {d:WData},Dw K H v d→Dw K H' v d
 | _,_,.non=>.non
 | _,_,.bl b=>.bl b
 | _,_,.int i=>.int i
 | _,_,.str x=>.str x
 | _,_,.byt b=>.byt b
 | _,_,.lst h1 h2=>.lst (by
   rcases h1 with (h | ⟨o,h⟩) | h
   ·
    exact .inl (.inl (s.lst h))
   ·
    exact .inl (.inr ⟨o,s _ _ h (fun _ z=>by cases z) (fun _ z=>by cases z)⟩)
   ·
    exact .inr h) (DwAll.same s h2)
 | _,_,.tup h1 h2=>.tup (by
   rcases h1 with (h | ⟨o,h⟩) | h
   ·
    exact .inl (.inl (s.tup h))
   ·
    exact .inl (.inr ⟨o,s _ _ h (fun _ z=>by cases z) (fun _ z=>by cases z)⟩)
   ·
    exact .inr h) (DwAll.same s h2)
theorem DwAll.same {K:PySem.W.Frag}{H H':Hp}(s:Wk.Ak H H'):∀{vs:List V} {ds:List WData},DwAll K H vs ds→DwAll K H' vs ds
 | _,_,.nil=>.nil
 | _,_,.cons h1 h2=>.cons (Dw.same s h1) (DwAll.same s h2)
end
theorem tab_at {p:Program}{loose:List Str}{mean:ExcName→Option Value}{mg mb:Str→Option Value}{h:Heap}{K:PySem.W.Frag}{d:DefRec}{nm:Str}{a c0 tb:Addr}{o:Obj}{fd:FuncData}
  (T:Top p loose mean mg mb h)(hf:(recsOf p).find? (fun e=>e.name==nm)=some d)(KX:K.In h)(hm:mg nm=some (.ref a))(lk:K.lookup a=some o)(hd:o.data=.func fd)(hc:fd.code=.ref c0)
  (hhd:PySem.W.codeHdIn K c0 tb=true):h.TableAt c0 tb #[]∧tb≠cStatics:=by
 obtain⟨c,P,e,B⟩:=PySem.W.based_of_top T hf hm (KX a o lk) hd
 have ec:c=c0:=by
  have:=e.symm.trans hc
  injection this
 subst ec
 have ht:=B.tab
 obtain⟨⟨o2,vs,g,_,d2,v11⟩,gP⟩:=id ht
 obtain⟨o3,vs3,_,_,_,_,_,_,_,g3,_,d3,v3,_⟩:=PySem.W.codeHd_of_K KX hhd
 rw[g] at g3
 have e3:=Option.some.inj g3
 subst e3
 rw[d2] at d3
 injection d3 with e4
 subst e4
 rw[v11] at v3
 have e5:=Option.some.inj v3
 injection e5 with e6
 subst e6
 exact⟨ht,B.notStatics⟩
theorem builtinsAt {p:Program}{loose:List Str}{mean:ExcName→Option Value}{mg mb:Str→Option Value}{h base:Heap}{H:Hp}{c0 tb:Addr}(T:Top p loose mean mg mb h)(ht:h.TableAt c0 tb #[])
  (hb:∀{b:Addr} {o:Obj},h.get? b=some o→H b=none→base.get? b=some o)(hH:∀b o,h.get? b=some o→o.cls=.type "module"→H b=none):base.BuiltinsAt mg tb:=by
 obtain⟨bm,ob,B⟩:=PySem.W.bmod_of_top T
 refine⟨bm,ob,B.name,B.ne,fun e=>?_,fun e=>?_,hb B.obj (hH bm ob B.obj B.cls),B.cls,B.dict,B.data⟩
 ·
  obtain⟨o,es,ep,g,d,_⟩:=B.ns
  rw[←e,B.obj] at g
  have:=Option.some.inj g
  rw[←this,B.data] at d
  cases d
 ·
  have g:=ht.2
  rw[←e,B.obj] at g
  have:=Option.some.inj g
  have z:=B.data
  rw[this] at z
  cases z
theorem spec_callT {P:Program}{w:World}{K:PySem.W.Frag}{mg mb:Str→Option Value}{CX:CXT}{k:Nat}{fa:Addr}{fd:FuncData}{ps:List Str}{sp:Sp}{s₁:Shared}{vals:List Value}{ds:List WData}{R:PySem.W.WRecords}{cl:Str→Option Addr}{d0:WData}{c0 tb:Addr}
  (KX:K.In s₁.heap)(hns:s₁.heap.Ns mainGlobals mg)(hb:s₁.heap.Ns builtinsNs mb)(hbb:∀x:Str,x≠"__name__"→mb x=bootBuiltins x)(hlim:s₁.heap.NoLimit)(hg:s₁.gens=#[])
  (hwl:WellAll w.params s₁.heap vals ds)(hpl:plWs ds=true)(hwt:∀d∈ds,d.weight≤1048576)(hr:AM k callerA)(ht:s₁.heap.TableAt c0 tb #[])(hKt:K.lookup tb=none)
  (F:∀(base:Heap) (H:Hp),K.In base→base.Ns mainGlobals mg→(∀{b:Addr} {o:Obj},s₁.heap.get? b=some o→H b=none→base.get? b=some o)→(∀b o,s₁.heap.get? b=some o→o.cls=.type "module"→H b=none)→Ah P w K mg base CX k fa fd ps sp)
  (hbind:∀(s:Shared) (us:List Value),us.length=ps.length→BindsTo s fd ⟨us,[]⟩ (ps.zip us))(hlen:ds.length=ps.length)
  (hsp:∀(H:Hp) (xs:List V),H tb=some (.tbl #[])→DwAll K H xs ds→sp xs H (fun v H'=>Dw K H' v d0) fun _ _ _=>False)
  (hCX:∀H e s',CX [] H s₁ (fun _ _ _=>False) e s'→False):
  codeAny (model P w) callerA (.call (.ref fa) ⟨vals,[]⟩) (fun r s'=>∃u as,r=.ok (.ret u)∧ReadsW R cl s'.heap u d0 as∧OldK s₁.heap s'.heap∧s'.os=s₁.os∧AllBare s'.gens) s₁:=by
 obtain⟨A,ho,ar⟩:=area_all ds vals hwl hpl hwt
 have hS0:=dw_all KX ar ds vals hwl hpl ho
 have hV:=vals_toV ho
 have hok0:HOk P w (argH K s₁.heap A) s₁.heap:=argH_ok ar
 have tbN:argH K s₁.heap A tb=none:=by
  cases q:argH K s₁.heap A tb with
  | none=>rfl
  |
   some u=>
   obtain⟨_,vs,_,_,⟨e2,_⟩ | ⟨e2,_⟩⟩:=argH_is ar q<;>(rw[ht.2] at e2;have z:=congrArg Obj.cls (Option.some.inj e2);cases z)
 have sm:Ae (argH K s₁.heap A) (upd (argH K s₁.heap A) tb (.tbl #[])):=fun b u q=>by rw[Ai (Aj q tbN)];exact q
 have hS:=DwAll.same (Wk.Ak.of sm) hS0
 have hok:HOk P w (upd (argH K s₁.heap A) tb (.tbl #[])) s₁.heap:=fun b u q=>by
  by_cases e:b=tb
  ·
   subst e
   rw[Ab] at q
   cases q
   exact ht.2
  ·
   rw[Ai e] at q
   exact (hok0 b u q).stay (fun _ _ _ z=>z) (fun c z=>sm c _ z) fun c xs z=>sm c _ z
 have hO:∀b,(upd (argH K s₁.heap A) tb (.tbl #[])) b=none∨(∃o u,(upd (argH K s₁.heap A) tb (.tbl #[])) b=some (.frz o u))∨b=tb:=fun b=>by
  by_cases e:b=tb
  ·
   exact .inr (.inr e)
  ·
   rw[Ai e]
   rcases argH_only (K:=K) ar b with z | z
   ·
    exact .inl z
   ·
    exact .inr (.inl z)
 have obj:∀b u,(upd (argH K s₁.heap A) tb (.tbl #[])) b=some u→K.lookup b=none∧∀o,s₁.heap.get? b=some o→(∃vs,o.data=.fields vs)∧o.cls=.none∨(∃vs n,o.data=.seq vs n)∧(o.cls=.type "list"∨o.cls=.type "tuple"):=fun b u q=>by
  by_cases e:b=tb
  ·
   subst e
   refine⟨hKt,fun o g=>.inl ?_⟩
   rw[ht.2] at g
   cases g
   exact⟨⟨_,rfl⟩,rfl⟩
  ·
   rw[Ai e] at q
   obtain⟨h1,vs,_,_,⟨e2,_⟩ | ⟨e2,_⟩⟩:=argH_is ar q
   ·
    exact⟨h1,fun o g=>.inr (by rw[e2] at g;cases g;exact⟨⟨_,_,rfl⟩,.inl rfl⟩)⟩
   ·
    exact⟨h1,fun o g=>.inr (by rw[e2] at g;cases g;exact⟨⟨_,_,rfl⟩,.inr rfl⟩)⟩
 have hTb:(upd (argH K s₁.heap A) tb (.tbl #[])) tb=some (.tbl #[]):=Ab
 generalize (upd (argH K s₁.heap A) tb (.tbl #[]))=H at hO hok hS obj hTb
 have noA:∀{b:Addr} {o:Obj} {es:Array DictEntry} {ep:Nat},s₁.heap.get? b=some o→o.data=.dict es ep→H b=none:=fun {b o es ep} e d=>by
  cases q:H b with
  | none=>rfl
  |
   some u=>
   rcases (obj b u q).2 o e with ⟨⟨vs,z⟩,_⟩ | ⟨⟨vs,n,z⟩,_⟩<;>(rw[z] at d;cases d)
 have base_of:∀{b:Addr} {o:Obj},s₁.heap.get? b=some o→H b=none→(hidT s₁.heap H).get? b=some o:=fun e n=>hidT_get e n
 have nsK:∀{b:Addr} {m:Str→Option Value},s₁.heap.Ns b m→(hidT s₁.heap H).Ns b m:=fun {b m} ⟨o,es,ep,e,d,r⟩=>⟨o,es,ep,base_of e (noA e d),d,r⟩
 have nK:∀b o,K.lookup b=some o→H b=none:=fun b o e=>by
  cases q:H b with
  | none=>rfl
  |
   some u=>
   rw[(obj b u q).1] at e
   cases e
 have hKb:K.In (hidT s₁.heap H):=fun b o e=>base_of (KX b o e) (nK b o e)
 have hM:Mod K mg (hidT s₁.heap H):=⟨hKb,nsK hns,⟨mb,nsK hb,hbb⟩,let ⟨mc,h1,h2⟩:=hlim;⟨mc,nsK h1,h2⟩⟩
 have e0:Env0 P w K mg (hidT s₁.heap H) callerA [] s₁ H:=⟨rfl,hM,fun b o e=>of_hidT e,Nat.le_of_eq (hidT_size _ _),trivial,fun b hb=>absurd (show b∈([]:List Addr) from hb) (by simp),hok,.of_eq hg⟩
 have hl:vals.length=ps.length:=by rw[wellAll_len hwl];exact hlen
 have hmod:∀b o,s₁.heap.get? b=some o→o.cls=.type "module"→H b=none:=fun b o e c=>by
  cases q:H b with
  | none=>rfl
  |
   some u=>
   rcases (obj b u q).2 o e with ⟨_,z⟩ | ⟨_,z | z⟩<;>(rw[z] at c;first | (injection c with c;exact absurd c (by decide)) | cases c)
 refine codeAny_mono ((F _ H hKb (nsK hns) base_of hmod).run callerA [] s₁ H ⟨vals,[]⟩ vals (vals.map toV) _ _ hr e0 (hbind s₁ vals hl) hV (hsp H _ hTb hS)) fun r s' x=>?_
 cases r with
 | error e=>exact (hCX H e s' x).elim
 |
  ok fl=>
  cases fl with
  | next=>exact False.elim x
  | brk=>exact False.elim x
  | cont=>exact False.elim x
  |
   ret u=>
   obtain⟨v,H',os,bare,un,hok',r',q⟩:=x
   have kept:∀b o,b≠tb→s₁.heap.get? b=some o→s'.heap.get? b=some o:=fun b o hbt e=>by
    cases q2:H b with
    | none=>exact un.keep b o e q2 (by intro z;exact absurd (show b∈([]:List Addr) from z) (by simp)) (by simp)
    |
     some u2=>
     rcases hO b with z | ⟨ob,u3,z⟩ | z
     ·
      rw[q2] at z
      cases z
     ·
      have z2:=un.frzs b ob _ z
      obtain⟨e1,_⟩:=hok b _ z
      obtain⟨e2,_⟩:=hok' b _ z2
      rw[e] at e1
      cases e1
      exact e2
     ·
      exact absurd z hbt
   have KX':K.In s'.heap:=fun b o e=>kept b o (fun z=>by rw[z,hKt] at e;cases e) (KX b o e)
   obtain⟨as,hrd⟩:=Dw.reads (R:=R) (cl:=cl) hok' KX' d0 v u q r'
   obtain⟨more,hmore⟩:=un.tbls tb _ hTb
   have hT':s'.heap.get? tb=some {cls:=.none,data:=.fields (#[]++more)}:=hok' tb _ hmore
   refine⟨u,as,rfl,hrd,⟨fun b o e=>?_,fun b o e=>?_⟩,os,bare⟩
   ·
    by_cases hbt:b=tb
    ·
     subst hbt
     rw[ht.2] at e
     cases e
     exact .inr (.inl ⟨ht.isCodeTable,rfl,#[],more,rfl,hT'⟩)
    ·
     exact .inl (kept b o hbt e)
   ·
    by_cases hbt:b=tb
    ·
     subst hbt;exact⟨_,hT'⟩
    ·
     exact⟨o,kept b o hbt e⟩
theorem walk_specT {r:OpenSpec}{k:Nat}{q:Program}{loose:List Str}{XP:(Str→Option Value)→Heap→Prop}{YP:World→Heap→Prop}{d dO:DefRec}{K:Params→PySem.W.Frag}{CX:CXT}{ps:List Str}{sp:World→PySem.W.Frag→Sp}{fO c0 tb:Addr}{nm:Str}
  (hwell:r.wellSaid=true)(hlen:r.args.length=ps.length)(hr:AM k callerA)
  (hY:∀(w:World) (h:Heap),YP w h→(K w.params).In h)
  (hf:(recsOf q).find? (fun e=>e.name==nm)=some dO)
  (hO:∀(w:World) (h:Heap),YP w h→∃(o:Obj) (fdO:FuncData),PySem.W.nsIn (K w.params) mainGlobals nm=some (some (.ref fO))∧(K w.params).lookup fO=some o∧o.data=.func fdO∧fdO.code=.ref c0∧PySem.W.codeHdIn (K w.params) c0 tb=true∧(K w.params).lookup tb=none)
  (F:∀(w:World) (mg:Str→Option Value) (fa:Addr) (h:Heap),YP w h→(K w.params).In h→h.Ns mainGlobals mg→mg d.name=some (.ref fa)→
   ∃fd:FuncData,(∀(s:Shared) (us:List Value),us.length=ps.length→BindsTo s fd ⟨us,[]⟩ (ps.zip us))∧
    ∀base:Heap,(K w.params).In base→base.Ns mainGlobals mg→base.BuiltinsAt mg tb→Ah r.prog w (K w.params) mg base CX k fa fd ps (sp w (K w.params)))
  (hsp:∀(w:World) (K:PySem.W.Frag) (H:Hp) (xs:List V) (a:Codec.denoteAll r.args),H tb=some (.tbl #[])→Codec.withinAll r.args a=true→Codec.app r.args r.asked a=true→DwAll K H xs (Codec.encAll r.args a)→
   sp w K xs H (fun v H'=>Dw K H' v (r.ret.enc (Codec.app r.args r.f a))) fun _ _ _=>False)
  (hCX:∀(H:Hp) (s:Shared) (e:Value) (s':Shared),CX [] H s (fun _ _ _=>False) e s'→False):
  PySem.W.WalkOS q loose XP YP r d [] (fun f vs=>PySem.call f vs):=by
 intro w s_0 s₁ mg mb G Y fa o pm cd doc dV kV ho hd hcd hD hmg hg args vals as hpre hlay hrd hwl hlo
 obtain⟨a,e1,e2⟩:=PySem.W.os_pre_some hpre
 obtain⟨e3,hwi⟩:=Codec.encAll_of_decAll r.args args a e1
 subst e3
 have KX:=hY w _ Y
 obtain⟨oO,fdO,hn,hlk,hdO,hcO,hhd,hKt⟩:=hO w _ Y
 obtain⟨ht,_⟩:=tab_at G.T hf KX (PySem.W.mg_of KX G.T.g hn) hlk hdO hcO hhd
 obtain⟨fd,hb,hF⟩:=F w mg fa _ Y KX G.T.g hmg
 refine PySem.W.enter_call (codeAny_mono (spec_callT (R:=[]) (cl:=classAt s_0.heap) (d0:=r.ret.enc (Codec.app r.args r.f a)) KX G.T.g G.T.b G.T.builtins G.T.nolimit hg hwl (pl_encAll _ _) (layable_weight hlay) hr ht hKt
  (fun base H h1 h2 h3 h4=>hF base h1 h2 (builtinsAt (H:=H) G.T ht h3 h4)) hb (by rw[encAll_len];exact hlen) (fun H xs hT hS=>hsp w _ H xs a hT hwi e2 hS) fun H e s'=>hCX H s₁ e s') fun r' s' hq=>?_)
 obtain⟨u,as',rfl,h1,h2,h3,h4⟩:=hq
 exact⟨.inl ⟨u,_,as',rfl,fun _=>rfl,h1,(OpenSpec.post_iff hwell hwi _ _).mpr rfl,fun z=>Bool.noConfusion (show false=true from z)⟩,h2,h3,h4⟩
theorem hd_of {K:PySem.W.Frag}{c0 tb:Addr}{od:Option Addr}{vs:Array Value}{sl:Array (Option Value)}(hl:K.lookup c0=some ⟨.type "code",od,.fields vs,sl⟩)(h11:vs[11]?=some (.ref tb))(h18:(match vs.getD 18 .none with | .str _ _=>true | _=>false)=true)
  (h7:(match vs.getD 7 .none with | .int _ _=>true | _=>false)=true)(h9:(match vs.getD 9 .none with | .bool _=>true | _=>false)=true)(h10:(match vs.getD 10 .none with | .int _ _=>true | _=>false)=true)(hne:(c0 !=tb)=true):PySem.W.codeHdIn K c0 tb=true:=by
 unfold PySem.W.codeHdIn
 rw[hl]
 simp only[h11,Bool.and_eq_true]
 exact⟨⟨⟨⟨⟨beq_self_eq_true _,h18⟩,h7⟩,h9⟩,h10⟩,hne⟩
theorem hO_mk {K:PySem.W.Frag}{x qual:Str}{st:Stmt}{f c0 tb:Addr}{oc kV doc pm ct:Value}{od an od':Option Addr}{sl sl':Array (Option Value)}{vs:Array Value}(a:PySem.W.nsIn K mainGlobals x=some (some (.ref f)))
  (l:K.lookup f=some ⟨oc,od,.func (PySem.W.fnOf x qual (defArgs st) (defBody st) (Ag st) .none kV doc pm an (.ref c0) ct),sl⟩)(lc:K.lookup c0=some ⟨.type "code",od',.fields vs,sl'⟩)(h11:vs[11]?=some (.ref tb))
  (h18:(match vs.getD 18 .none with | .str _ _=>true | _=>false)=true)(h7:(match vs.getD 7 .none with | .int _ _=>true | _=>false)=true)(h9:(match vs.getD 9 .none with | .bool _=>true | _=>false)=true)
  (h10:(match vs.getD 10 .none with | .int _ _=>true | _=>false)=true)(hne:(c0 !=tb)=true)(t:K.lookup tb=none):
  ∃(o:Obj) (fdO:FuncData),PySem.W.nsIn K mainGlobals x=some (some (.ref f))∧K.lookup f=some o∧o.data=.func fdO∧fdO.code=.ref c0∧PySem.W.codeHdIn K c0 tb=true∧K.lookup tb=none:=
 ⟨_,_,a,l,rfl,rfl,hd_of lc h11 h18 h7 h9 h10 hne,t⟩
end L2
namespace Wk
open PySem PySem.Spec PyProof.Rows L2 Rb
structure Df (K:PySem.W.Frag)(mg:Str→Option Value)(n:Str)(st:Stmt)(ps:List Str)(f:Addr)(fd:FuncData):Prop where
 F:Fun K n n st f fd
 b:An K fd ps []
 m:mg n=some (.ref f)
theorem Df.k {K:PySem.W.Frag}{mg:Str→Option Value}{n:Str}{st:Stmt}{ps:List Str}{f:Addr}{fd:FuncData}(D:Df K mg n st ps f fd):PySem.W.keepIn K (.ref f)=true:=D.F.kp
structure Md (K:PySem.W.Frag)(C:Addr)(n q:Str)(st:Stmt)(ps:List Str)(f:Addr)(fd:FuncData):Prop where
 h:AT K C n f
 F:Fun K n q st f fd
 b:An K fd ps []
structure Mi (K:PySem.W.Frag)(C:Addr)(q:Str)(st:Stmt)(f:Addr)(fd:FuncData):Prop where
 M:L2.Mk K C f
 F:Fun K "__init__" q st f fd
 b:An K fd ["self"] []
def BindsAs (n q:Str)(st:Stmt)(ps:List Str):Prop:=∀(kV doc pm:Value) (an:Option Addr) (cdv ct:Value) (us:List Value),us.length=ps.length→bindArgs (PySem.W.fnOf n q (defArgs st) (defBody st) (Ag st) .none kV doc pm an cdv ct) ⟨us,[]⟩=pure (ps.zip us)
def DfE (K:PySem.W.Frag)(mg:Str→Option Value)(n:Str)(st:Stmt)(ps:List Str):Prop:=∃f fd,Df K mg n st ps f fd
def MdE (K:PySem.W.Frag)(C:Addr)(n q:Str)(st:Stmt)(ps:List Str):Prop:=∃f fd,Md K C n q st ps f fd
def MiE (K:PySem.W.Frag)(C:Addr)(q:Str)(st:Stmt):Prop:=∃f fd,Mi K C q st f fd
theorem df_mk {K:PySem.W.Frag}{h:Heap}{mg:Str→Option Value}{n:Str}{st:Stmt}{ps:List Str}{f:Addr}{oc:Value}{od an:Option Addr}{osl:Array (Option Value)}{kV doc pm cdv ct:Value}(X:K.In h)(G:h.Ns mainGlobals mg)(hb:BindsAs n n st ps)
  (a:PySem.W.nsIn K mainGlobals n=some (some (.ref f)))(l:K.lookup f=some ⟨oc,od,.func (PySem.W.fnOf n n (defArgs st) (defBody st) (Ag st) .none kV doc pm an cdv ct),osl⟩)(c:PySem.W.codeIn K cdv n=true)(k:PySem.W.keepIn K (.ref f)=true):DfE K mg n st ps:=
 ⟨_,_,fun_mk l c k,(fun_mk l c k).binds hb,PySem.W.mg_of X G a⟩
theorem md_mk {K:PySem.W.Frag}{C:Addr}{n q:Str}{st:Stmt}{ps:List Str}{f:Addr}{oc:Value}{od an:Option Addr}{osl:Array (Option Value)}{kV doc pm cdv ct:Value}(hb:BindsAs n q st ps)
  (a:PySem.W.findIn K (.ref C) n=some (some (.ref f)))(i:PySem.W.isFn K (.ref f)=true)(l:K.lookup f=some ⟨oc,od,.func (PySem.W.fnOf n q (defArgs st) (defBody st) (Ag st) .none kV doc pm an cdv ct),osl⟩)(c:PySem.W.codeIn K cdv q=true)(k:PySem.W.keepIn K (.ref f)=true):MdE K C n q st ps:=
 ⟨_,_,⟨a,i,k⟩,fun_mk l c k,(fun_mk l c k).binds hb⟩
theorem mi_mk {K:PySem.W.Frag}{C:Addr}{q:Str}{st:Stmt}{f:Addr}{oc:Value}{od an:Option Addr}{osl:Array (Option Value)}{kV doc pm cdv ct:Value}(hb:BindsAs "__init__" q st ["self"])(m:PySem.W.makesIn K C=true)(p:PySem.W.keepIn K (.ref C)=true)
  (a:PySem.W.findIn K (.ref C) "__init__"=some (some (.ref f)))(i:PySem.W.isFn K (.ref f)=true)(l:K.lookup f=some ⟨oc,od,.func (PySem.W.fnOf "__init__" q (defArgs st) (defBody st) (Ag st) .none kV doc pm an cdv ct),osl⟩)(c:PySem.W.codeIn K cdv q=true)(k:PySem.W.keepIn K (.ref f)=true):MiE K C q st:=
 ⟨_,_,⟨m,a,i,p⟩,fun_mk l c k,(fun_mk l c k).binds hb⟩
structure Tops (K:PySem.W.Frag)(mg:Str→Option Value):Prop where
 d0:DfE K mg "common" sCommon ["one","other"]
 d1:DfE K mg "lowest" sLowest ["above","below"]
 d2:DfE K mg "is_more" sMore ["one","other"]
 d3:DfE K mg "difference" sDiff ["one","other"]
 d4:DfE K mg "first_most" sFMost ["fractions"]
 d5:DfE K mg "first_fewest" sFFew ["fractions"]
 d6:DfE K mg "with_machine_ahead" sAhead ["found","chance","has_piece","has_place"]
 d7:DfE K mg "hours" sHours ["filling","way","chances"]
 d8:DfE K mg "filled_after" sFilled ["filling","working"]
 d9:DfE K mg "all_fillings" sAllF ["way"]
 d11:DfE K mg "equations" sEqs ["chances","way"]
 d12:DfE K mg "at_measure" sAtM ["numbers","scale","measure"]
 d13:DfE K mg "without_first" sWoF ["numbers","scale","taking"]
 d14:DfE K mg "last_two_left" sLast ["rows"]
 d15:DfE K mg "pieces_an_hour" sPieces ["chances","way"]
 d16:DfE K mg "one_machine_more" sOneMach ["orders","machines"]
 d17:DfE K mg "all_orders" sAllO ["machines"]
 d18:DfE K mg "in_order" sInO ["chances","order"]
 d19:DfE K mg "count_fillings" sCount ["way"]
 d20:DfE K mg "is_way" sIsWay ["way","rooms"]
 d21:DfE K mg "one_room_more" sOneMore ["ways"]
 d22:DfE K mg "ways_of" sWaysOf ["rooms","room_for_all"]
 d23:DfE K mg "is_chance" sIsCh ["tenths"]
 d24:DfE K mg "are_chances" sAreCh ["chances"]
 d25:DfE K mg "count_plain" sCountP ["number"]
 d26:DfE K mg "has_row" sHasRow ["number"]
 d27:DfE K mg "split_calls" sSplit ["calls"]
 d28:DfE K mg "answer_change" sChange ["line","number","given"]
 d29:DfE K mg "answer_of_ways" sOfWays ["line","number","given"]
 d30:DfE K mg "answer_of_what_if" sWhatIf ["line","number","given"]
 d31:DfE K mg "answer_of_machines" sOfMach ["line","number","given"]
 d32:DfE K mg "answer_call" sCall ["line","number","given"]
 d33:DfE K mg "answers" sAns ["calls"]
 n0:Num mg "MOST_IN_A_ROOM" 8
 n1:Num mg "MOST_FILLINGS" 27
 n2:Num mg "MOST_TENTHS" 9
 n3:Num mg "MOST_FOR_ALL" 8
 n4:Num mg "MOST_BELOW" 1000
 n5:Num mg "NONE_SUCH" (-2)
 n6:Num mg "NONE" (-6)
 n7:Num mg "NOT_BEGUN" (-11)
 n8:Num mg "SO_ALREADY" (-17)
 n9:Num mg "OUT_OF_RANGE" (-22)
 n10:Num mg "TOO_MANY" (-28)
 n11:Num mg "NOT_SO" (-33)
 n12:Num mg "BEGIN" 0
 n13:Num mg "TOTAL" 1
 n14:Num mg "CHANCE" 2
 n15:Num mg "SWAP" 3
 n16:Num mg "TURN" 4
 n17:Num mg "BEST" 5
 n18:Num mg "WORST" 6
 n19:Num mg "WAYS" 7
 n20:Num mg "OF" 8
 n21:Num mg "PLACE" 9
 n22:Num mg "WORTH" 10
 n23:Num mg "NEED" 11
 n24:Num mg "ORDER" 12
 n25:Num mg "TURNED" 13
 n26:Num mg "BOUND" 14
 n27:Num mg "GAIN" 15
 n28:Num mg "NECK" 16
 k0:mg "abs"=none
 k1:mg "len"=none
 k2:mg "range"=none
 k3:mg "tuple"=none
 k4:mg "enumerate"=none
 k5:mg "max"=none
 k6:mg "sorted"=none
 k7:mg "zip"=none
 k8:mg "dict"=none
 k9:mg "sum"=none
 k10:mg "all"=none
 k11:mg "list"=none
 k12:mg "min"=none
 k13:mg "reversed"=none
structure LineFs (K:PySem.W.Frag)(C:Addr):Prop where
 env:AO K C
 ini:MiE K C "Line.__init__" sInit
 l0:MdE K C "has_begun" "Line.has_begun" sBegun ["self"]
 l1:MdE K C "has_machine" "Line.has_machine" sHasM ["self","machine"]
 l2:MdE K C "may_be_higher" "Line.may_be_higher" sHigh ["self","machine"]
 l3:MdE K C "rooms" "Line.rooms" sRooms ["self"]
 l4:MdE K C "can_be_put" "Line.can_be_put" sCan ["self","room"]
 l5:MdE K C "ways_of_all_room" "Line.ways_of_all_room" sAllW ["self"]
 l6:MdE K C "brings" "Line.brings" sBringsL ["self","way"]
 l7:MdE K C "best_way" "Line.best_way" sBestWL ["self"]
 l8:MdE K C "way_told" "Line.way_told" sTold ["self","chances","way"]
 l9:MdE K C "gained_by" "Line.gained_by" sGained ["self","machine"]
 l10:MdE K C "begin" "Line.begin" sBegin ["self","chances"]
 l11:MdE K C "total" "Line.total" sTotal ["self","room"]
 l12:MdE K C "chance" "Line.chance" sChance ["self","machine","tenths"]
 l13:MdE K C "swap" "Line.swap" sSwap ["self","machine","another"]
 l14:MdE K C "turn" "Line.turn" sTurn ["self"]
 l15:MdE K C "state" "Line.state" sState ["self"]
 l16:MdE K C "best" "Line.best" sBest ["self"]
 l17:MdE K C "worst" "Line.worst" sWorst ["self"]
 l18:MdE K C "turned" "Line.turned" sTurned ["self"]
 l19:MdE K C "ways" "Line.ways" sWays ["self"]
 l20:MdE K C "of" "Line.of" sOf ["self","way"]
 l21:MdE K C "place" "Line.place" sPlace ["self","way"]
 l22:MdE K C "order" "Line.order" sOrder ["self","way"]
 l23:MdE K C "worth" "Line.worth" sWorth ["self"]
 l24:MdE K C "need" "Line.need" sNeed ["self","above","below"]
 l25:MdE K C "bound" "Line.bound" sBound ["self"]
 l26:MdE K C "gain" "Line.gain" sGain ["self","machine"]
 l27:MdE K C "neck" "Line.neck" sNeck ["self"]
structure BroughtFs (K:PySem.W.Frag)(C:Addr):Prop where
 env:ClsEnvB K C
 ini:MiE K C "Brought.__init__" sInitB
 b0:MdE K C "brings" "Brought.brings" sBringsB ["self","chances","way"]
 b1:MdE K C "best_way" "Brought.best_way" sBestW ["self","chances","room"]
 b2:MdE K C "worst_way" "Brought.worst_way" sWorstW ["self","chances","room"]
 b3:MdE K C "best_order" "Brought.best_order" sBestO ["self","chances","way"]
theorem ord_mk {K:PySem.W.Frag}{h:Heap}{mg:Str→Option Value}(X:K.In h)(G:h.Ns mainGlobals mg){f c0 tb:Addr}{oc kV doc pm ct:Value}{od an od':Option Addr}{sl sl':Array (Option Value)}{vs:Array Value}(a:PySem.W.nsIn K mainGlobals "ordered_fillings"=some (some (.ref f)))
  (l:K.lookup f=some ⟨oc,od,.func (PySem.W.fnOf "ordered_fillings" "ordered_fillings" (defArgs sOrdF) (defBody sOrdF) (Ag sOrdF) .none kV doc pm an (.ref c0) ct),sl⟩)(c:PySem.W.codeIn K (.ref c0) "ordered_fillings"=true)(k:PySem.W.keepIn K (.ref f)=true)
  (lc:K.lookup c0=some ⟨.type "code",od',.fields vs,sl'⟩)(h11:vs[11]?=some (.ref tb))
  (h18:(match vs.getD 18 .none with | .str _ _=>true | _=>false)=true)(h7:(match vs.getD 7 .none with | .int _ _=>true | _=>false)=true)(h9:(match vs.getD 9 .none with | .bool _=>true | _=>false)=true)
  (h10:(match vs.getD 10 .none with | .int _ _=>true | _=>false)=true)(hne:(c0 !=tb)=true):
  ∃f fd c0,Df K mg "ordered_fillings" sOrdF ["way"] f fd∧fd.code=.ref c0∧PySem.W.codeHdIn K c0 tb=true:=
 ⟨_,_,_,⟨fun_mk l c k,(fun_mk l c k).binds (fun _ _ _ _ _ _ us hl=>match us,hl with | [_],_=>rfl),PySem.W.mg_of X G a⟩,rfl,hd_of lc h11 h18 h7 h9 h10 hne⟩
theorem F_mk {P:Program}{w:World}{K:PySem.W.Frag}{mg:Str→Option Value}{fa tb:Addr}(hfa:mg "answers"=some (.ref fa))(T:Tops K mg)(line:∃C,mg "Line"=some (.ref C)∧LineFs K C)(brought:∃CB,mg "Brought"=some (.ref CB)∧BroughtFs K CB)
  (ord:∃f fd c0,Df K mg "ordered_fillings" sOrdF ["way"] f fd∧fd.code=.ref c0∧PySem.W.codeHdIn K c0 tb=true):
  ∃fd:FuncData,(∀(s:Shared) (us:List Value),us.length=(["calls"]:List Str).length→BindsTo s fd ⟨us,[]⟩ ((["calls"]:List Str).zip us))∧
   ∀base:Heap,K.In base→base.Ns mainGlobals mg→base.BuiltinsAt mg tb→Ah P w K mg base CX0 13 fa fd ["calls"] (spAll K tb):=by
 obtain⟨_,_,d0⟩:=T.d0
 obtain⟨_,_,d1⟩:=T.d1
 obtain⟨_,_,d2⟩:=T.d2
 obtain⟨_,_,d3⟩:=T.d3
 obtain⟨_,_,d4⟩:=T.d4
 obtain⟨_,_,d5⟩:=T.d5
 obtain⟨_,_,d6⟩:=T.d6
 obtain⟨_,_,d7⟩:=T.d7
 obtain⟨_,_,d8⟩:=T.d8
 obtain⟨_,_,d9⟩:=T.d9
 obtain⟨_,_,d11⟩:=T.d11
 obtain⟨_,_,d12⟩:=T.d12
 obtain⟨_,_,d13⟩:=T.d13
 obtain⟨_,_,d14⟩:=T.d14
 obtain⟨_,_,d15⟩:=T.d15
 obtain⟨_,_,d16⟩:=T.d16
 obtain⟨_,_,d17⟩:=T.d17
 obtain⟨_,_,d18⟩:=T.d18
 obtain⟨_,_,d19⟩:=T.d19
 obtain⟨_,_,d20⟩:=T.d20
 obtain⟨_,_,d21⟩:=T.d21
 obtain⟨_,_,d22⟩:=T.d22
 obtain⟨_,_,d23⟩:=T.d23
 obtain⟨_,_,d24⟩:=T.d24
 obtain⟨_,_,d25⟩:=T.d25
 obtain⟨_,_,d26⟩:=T.d26
 obtain⟨_,_,d27⟩:=T.d27
 obtain⟨_,_,d28⟩:=T.d28
 obtain⟨_,_,d29⟩:=T.d29
 obtain⟨_,_,d30⟩:=T.d30
 obtain⟨_,_,d31⟩:=T.d31
 obtain⟨_,_,d32⟩:=T.d32
 obtain⟨_,fdA,d33⟩:=T.d33
 have n0:=T.n0
 have n1:=T.n1
 have n2:=T.n2
 have n3:=T.n3
 have n4:=T.n4
 have n5:=T.n5
 have n6:=T.n6
 have n7:=T.n7
 have n8:=T.n8
 have n9:=T.n9
 have n10:=T.n10
 have n11:=T.n11
 have n12:=T.n12
 have n13:=T.n13
 have n14:=T.n14
 have n15:=T.n15
 have n16:=T.n16
 have n17:=T.n17
 have n18:=T.n18
 have n19:=T.n19
 have n20:=T.n20
 have n21:=T.n21
 have n22:=T.n22
 have n23:=T.n23
 have n24:=T.n24
 have n25:=T.n25
 have n26:=T.n26
 have n27:=T.n27
 have n28:=T.n28
 have k0:=T.k0
 have k1:=T.k1
 have k2:=T.k2
 have k3:=T.k3
 have k4:=T.k4
 have k5:=T.k5
 have k6:=T.k6
 have k7:=T.k7
 have k8:=T.k8
 have k9:=T.k9
 have k10:=T.k10
 have k11:=T.k11
 have k12:=T.k12
 have k13:=T.k13
 obtain⟨_,_,c0,d10,hfc,hhd⟩:=ord
 obtain⟨C,mLn,LF⟩:=line
 obtain⟨CB,mBr,BF⟩:=brought
 obtain⟨_,_,iL⟩:=LF.ini
 obtain⟨_,_,iB⟩:=BF.ini
 obtain⟨_,_,l0⟩:=LF.l0
 obtain⟨_,_,l1⟩:=LF.l1
 obtain⟨_,_,l2⟩:=LF.l2
 obtain⟨_,_,l3⟩:=LF.l3
 obtain⟨_,_,l4⟩:=LF.l4
 obtain⟨_,_,l5⟩:=LF.l5
 obtain⟨_,_,l6⟩:=LF.l6
 obtain⟨_,_,l7⟩:=LF.l7
 obtain⟨_,_,l8⟩:=LF.l8
 obtain⟨_,_,l9⟩:=LF.l9
 obtain⟨_,_,l10⟩:=LF.l10
 obtain⟨_,_,l11⟩:=LF.l11
 obtain⟨_,_,l12⟩:=LF.l12
 obtain⟨_,_,l13⟩:=LF.l13
 obtain⟨_,_,l14⟩:=LF.l14
 obtain⟨_,_,l15⟩:=LF.l15
 obtain⟨_,_,l16⟩:=LF.l16
 obtain⟨_,_,l17⟩:=LF.l17
 obtain⟨_,_,l18⟩:=LF.l18
 obtain⟨_,_,l19⟩:=LF.l19
 obtain⟨_,_,l20⟩:=LF.l20
 obtain⟨_,_,l21⟩:=LF.l21
 obtain⟨_,_,l22⟩:=LF.l22
 obtain⟨_,_,l23⟩:=LF.l23
 obtain⟨_,_,l24⟩:=LF.l24
 obtain⟨_,_,l25⟩:=LF.l25
 obtain⟨_,_,l26⟩:=LF.l26
 obtain⟨_,_,l27⟩:=LF.l27
 obtain⟨_,_,b0⟩:=BF.b0
 obtain⟨_,_,b1⟩:=BF.b1
 obtain⟨_,_,b2⟩:=BF.b2
 obtain⟨_,_,b3⟩:=BF.b3
 have CE:=LF.env
 have CEB:=BF.env
 have e:=hfa.symm.trans d33.m
 cases e
 refine⟨fdA,?_,fun base _ _ hB=>?_⟩
 ·
  obtain⟨oc,od,kV,doc,pm,an,cdv,ct,osl,rfl,lk,hcd⟩:=d33.F.ex
  exact fun s us hu=>match us,hu with | [_],_=>.of_eq rfl
 obtain⟨u8,m8,r8⟩:=n0
 obtain⟨u27,m27,r27⟩:=n1
 have N:RoomNums mg:=⟨n12,n13,n14,n15,n20,n21,n23,n24,n27⟩
 have g23:Ah P w K mg base CX0 2 _ _ ["above","below"] spLowest:=ok_lowest d1.F d0.F d0.b d0.m k0
 have g24:Ah P w K mg base CX0 1 _ _ ["one","other"] (spMore K):=ok_more d2.F
 have g13:Ah P w K mg base CX0 3 _ _ ["one","other"] (spDiff K):=ok_diff d3.F g23 d1.b d1.k d1.m
 have g16:Ah P w K mg base CX0 2 _ _ ["fractions"] (spFirst Su111.less):=ok_FMost d4.F g24 d2.b d2.k d2.m k4
 have g15:Ah P w K mg base CX0 2 _ _ ["fractions"] (spFirst (fun a b=>Su111.less b a)):=ok_FFew d5.F g24 d2.b d2.k d2.m k4
 have g18:Ah P w K mg base CX0 2 _ _ ["filling","way","chances"] (spHours K):=ok_hours d7.F d6.F d6.b d6.m k1 k2
 have g17:Ah P w K mg base CX0 1 _ _ ["filling","working"] (spFilled K):=ok_filled d8.F k3 k4
 have g27:Ah P w K mg base CX0 3 _ _ ["way"] (spOrdF K tb):=ok_ordF d10.F hfc hhd hB d9.F d9.b d9.m k2 k5 k6
 have g14:Ah P w K mg base CX0 4 _ _ ["chances","way"] (spEqs K tb):=ok_eqs d11.F ⟨g27,d10.b,d10.k,d10.m,g18,d7.b,d7.k,d7.m,g17,d8.b,d8.k,d8.m,k8,k4,k1⟩
 have g22:Ah P w K mg base CX0 2 _ _ ["rows"] (spLast K):=ok_last d14.F d12.F d12.b d12.m d13.F d13.b d13.m k7 k1
 have g28:Ah P w K mg base CX0 5 _ _ ["chances","way"] (spPieces K tb):=ok_pieces d15.F g14 d11.b d11.k d11.m g22 d14.b d14.k d14.m g23 d1.b d1.k d1.m
 have g26:Ah P w K mg base CX0 1 _ _ ["orders","machines"] spOneMach:=ok_oneMach d16.F k2
 have g10:Ah P w K mg base CX0 2 _ _ ["machines"] spAllO:=ok_allO d17.F g26 d16.b d16.k d16.m k2
 have g19:Ah P w K mg base CX0 1 _ _ ["chances","order"] (spInO K):=ok_inO d18.F
 have g12:Ah P w K mg base CX0 1 _ _ ["way"] (spCount K):=ok_count d19.F
 have g21:Ah P w K mg base CX0 2 _ _ ["way","rooms"] (spIsWay K):=ok_isWay d20.F g12 d19.b d19.k d19.m k1 m8 r8 m27 r27
 have g25:Ah P w K mg base CX0 2 _ _ ["ways"] spOneMore:=ok_oneMore d21.F g12 d19.b d19.k d19.m k2 m8 r8 m27 r27
 have g30:Ah P w K mg base CX0 3 _ _ ["rooms","room_for_all"] spWaysOf:=ok_waysOf d22.F g25 d21.b d21.k d21.m k2 k9
 have g20:Ah P w K mg base CX0 1 _ _ ["tenths"] spIsCh:=ok_isCh d23.F n2
 have g11:Ah P w K mg base CX0 2 _ _ ["chances"] (spAreCh K):=ok_areCh d24.F d23.F d23.b d23.m k1 k10 n2
 have g29:Ah P w K mg base CX0 2 _ _ ["calls"] (spSplit K):=ok_split d27.F d25.F d25.b d25.m d26.F d26.b d26.m N k1
 have g6:Ah P w K mg base CX0 6 _ _ ["self","chances","way"] (spBrB P w K tb CB):=ok_bringsB b0.F CEB g28 d15.b d15.k d15.m k3
 have g5:Ah P w K mg base CX0 7 _ _ ["self","chances","room"] (spBW P w tb CB Su112.most):=ok_BestW b1.F CEB b0.h g6 b0.b g16 d4.b d4.k d4.m g30 d22.b d22.k d22.m k1
 have g9:Ah P w K mg base CX0 7 _ _ ["self","chances","room"] (spBW P w tb CB Su112.least):=ok_WorstW b2.F CEB b0.h g6 b0.b g15 d5.b d5.k d5.m g30 d22.b d22.k d22.m k1
 have g8:Ah P w K mg base CX0 7 _ _ ["self","chances","way"] (spBO P w K tb CB):=ok_bestO b3.F CEB b0.h g6 b0.b g16 d4.b d4.k d4.m g10 d17.b d17.k d17.m g19 d18.b d18.k d18.m k1
 have g7:Ah P w K mg base CX0 1 _ _ ["self"] (spInitB P w tb CB):=ok_initB iB.F CEB
 have g34:Ah P w K mg base CX0 1 _ _ ["self"] (spBegun C):=ok_begun l0.F CE k1
 have g42:Ah P w K mg base CX0 1 _ _ ["self","machine"] (spHasM C):=ok_hasM l1.F CE k1
 have g43:Ah P w K mg base CX0 1 _ _ ["self","machine"] (spHigh C):=ok_high l2.F CE n2
 have g50:Ah P w K mg base CX0 1 _ _ ["self"] (spRooms C):=ok_rooms l3.F CE k1
 have g38:Ah P w K mg base CX0 4 _ _ ["self","room"] (spCan C):=ok_can l4.F CE l3.h g50 l3.b g30 d22.b d22.k d22.m k1 n3
 have g31:Ah P w K mg base CX0 4 _ _ ["self"] (spAllW C):=ok_allW l5.F CE l3.h g50 l3.b g30 d22.b d22.k d22.m
 have g37:Ah P w K mg base CX0 7 _ _ ["self","way"] (spBrings P w K tb CB C):=ok_bringsL l6.F CE CEB b0.h g6 b0.b
 have g32:Ah P w K mg base CX0 8 _ _ ["self"] (spBestWL P w tb CB C):=ok_bestWL l7.F CE CEB b1.h g5 b1.b
 have g53:Ah P w K mg base CX0 7 _ _ ["self","chances","way"] (spTold P w K tb CB C):=ok_told l8.F CE CEB b0.h g6 b0.b k1 k11
 have g41:Ah P w K mg base CX0 9 _ _ ["self","machine"] (spGained P w tb CB C):=ok_gained l9.F CE CEB b0.h g6 b0.b l7.h g32 l7.b l6.h g37 l6.b g13 d3.b d3.k d3.m k11
 have g33:Ah P w K mg base CX0 3 _ _ ["self","chances"] (spBegin P w K tb CB C):=ok_begin l10.F CE l3.h g50 l3.b g11 d24.b d24.k d24.m k11 n9
 have g54:Ah P w K mg base CX0 5 _ _ ["self","room"] (spM P w tb CB C aTotal):=ok_total l11.F CE l4.h g38 l4.b n9
 have g39:Ah P w K mg base CX0 2 _ _ ["self","machine","tenths"] (spM P w tb CB C aChance):=ok_chance l12.F CE l1.h g42 l1.b g20 d23.b d23.k d23.m n9 n5
 have g52:Ah P w K mg base CX0 2 _ _ ["self","machine","another"] (spM P w tb CB C aSwap):=ok_swap l13.F CE l1.h g42 l1.b k1 n5
 have g55:Ah P w K mg base CX0 1 _ _ ["self"] (spM P w tb CB C aTurn):=ok_turn l14.F CE k11 k13 k1
 have g51:Ah P w K mg base CX0 1 _ _ ["self"] (spM P w tb CB C aState):=ok_state l15.F CE k11
 have g35:Ah P w K mg base CX0 9 _ _ ["self"] (spM P w tb CB C aBest):=ok_best l16.F CE l8.h g53 l8.b l7.h g32 l7.b
 have g58:Ah P w K mg base CX0 9 _ _ ["self"] (spM P w tb CB C aWorst):=ok_worst l17.F CE CEB l8.h g53 l8.b b2.h g9 b2.b
 have g56:Ah P w K mg base CX0 8 _ _ ["self"] (spM P w tb CB C aTurned):=ok_turned l18.F CE CEB l8.h g53 l8.b b1.h g5 b1.b k11 k13
 have g57:Ah P w K mg base CX0 9 _ _ ["self"] (spM P w tb CB C aWays):=ok_ways l19.F CE l7.h g32 l7.b l6.h g37 l6.b l5.h g31 l5.b k1
 have g47:Ah P w K mg base CX0 8 _ _ ["self","way"] (spM P w tb CB C (aOf K)):=ok_of l20.F CE l3.h g50 l3.b l6.h g37 l6.b g21 d20.b d20.k d20.m k11 k9 n9
 have g49:Ah P w K mg base CX0 8 _ _ ["self","way"] (spM P w tb CB C (aPlace K)):=ok_place l21.F CE l3.h g50 l3.b l6.h g37 l6.b g21 d20.b d20.k d20.m l5.h g31 l5.b g24 d2.b d2.k d2.m k1 k9 n9
 have g48:Ah P w K mg base CX0 8 _ _ ["self","way"] (spM P w tb CB C (aOrder K)):=ok_order l22.F CE CEB l3.h g50 l3.b b0.h g6 b0.b g21 d20.b d20.k d20.m b3.h g8 b3.b g19 d18.b d18.k d18.m k11 k1 n9
 have g59:Ah P w K mg base CX0 9 _ _ ["self"] (spM P w tb CB C aWorth):=ok_worth l23.F CE CEB l4.h g38 l4.b b1.h g5 b1.b l7.h g32 l7.b l6.h g37 l6.b g13 d3.b d3.k d3.m k11 n10
 have g46:Ah P w K mg base CX0 8 _ _ ["self","above","below"] (spM P w tb CB C aNeed):=ok_need l24.F CE CEB l3.h g50 l3.b l4.h g38 l4.b b1.h g5 b1.b l6.h g37 l6.b g24 d2.b d2.k d2.m k11 k2 n4 n3 n9 n11
 have g36:Ah P w K mg base CX0 1 _ _ ["self"] (spM P w tb CB C aBound):=ok_bound l25.F CE k12
 have g40:Ah P w K mg base CX0 10 _ _ ["self","machine"] (spM P w tb CB C aGain):=ok_gain l26.F CE l1.h g42 l1.b l2.h g43 l2.b l9.h g41 l9.b k11 n5 n8
 have g45:Ah P w K mg base CX0 10 _ _ ["self"] (spM P w tb CB C aNeck):=ok_neck l27.F CE l2.h g43 l2.b l9.h g41 l9.b g16 d4.b d4.k d4.m k11 k1 k2 n6
 have g44:Ah P w K mg base CX0 3 _ _ ["self"] (spInit P w tb CB C):=ok_init iL.F CE iB.M g7 iB.b mBr
 have g0:Ah P w K mg base CX0 6 _ _ ["line","number","given"] (spAns P w tb CB C 1 4):=ok_Change d28.F CE l11.h g54 l11.b l12.h g39 l12.b l13.h g52 l13.b l14.h g55 l14.b n13 n14 n15
 have g1:Ah P w K mg base CX0 10 _ _ ["line","number","given"] (spAns P w tb CB C 5 9):=ok_OfWays d29.F CE l16.h g35 l16.b l17.h g58 l17.b l19.h g57 l19.b l20.h g47 l20.b l21.h g49 l21.b n17 n18 n19 n20
 have g2:Ah P w K mg base CX0 10 _ _ ["line","number","given"] (spAns P w tb CB C 10 13):=ok_WhatIf d30.F CE l23.h g59 l23.b l24.h g46 l24.b l22.h g48 l22.b l18.h g56 l18.b n22 n23 n24
 have g3:Ah P w K mg base CX0 11 _ _ ["line","number","given"] (spAns P w tb CB C 14 17):=ok_OfMach d31.F CE l25.h g36 l25.b l26.h g40 l26.b l27.h g45 l27.b l15.h g51 l15.b n26 n27 n28
 have g4:Ah P w K mg base CX0 12 _ _ ["line","number","given"] (spCall P w tb CB C):=ok_call d32.F CE l10.h g33 l10.b l0.h g34 l0.b g0 d28.b d28.k d28.m g1 d29.b d29.k d29.m g2 d30.b d30.k d30.m g3 d31.b d31.k d31.m n12 n16 n21 n25 n7
 exact ok_ans d33.F iL.M g44 iL.b mLn g29 d27.b d27.k d27.m g4 d32.b d32.k d32.m k1
end Wk
open PySem PySem.W PyProof.Rows
-- true, and never used: the head's tactic looks these names up and then makes no twin (nor its long proof) of what is built by Obj.mk, FunctionDef, BT.node
theorem PySem.W.Fast.te13052408679150730464:True:=trivial
theorem PySem.W.Fast.te16555476440528808052:True:=trivial
theorem PySem.W.Fast.te4110290226886642065:True:=trivial
set_option maxHeartbeats 0 in
theorem PySem.Challenge.cw_roombetween_s01_answers_holds : PySem.Challenge.rw_roombetween_s01_answers.Holds := by
 w_on;k_headS;(case hw=>exact⟨[.list [.int 4]],by decide +kernel,by decide +kernel⟩)
 k_fillS
 refine' L2.walk_specT (r:=PySem.Challenge.rw_roombetween_s01_answers) (k:=13) (CX:=L2.CX0) (ps:=["calls"]) (nm:="ordered_fillings") (sp:=fun _ K=>Wk.spAll K 84) (by decide +kernel) rfl ⟨rfl,by decide,by decide⟩ (fun w h Y=>PySem.W.kIn_of Y) ?hf ?hO ?F ?S (fun _ _ _ _ z=>z)
 case hf=>rfl
 case hO=>
  intro w h Y
  refine' L2.hO_mk (st:=Wk.sOrdF) (qual:="ordered_fillings") ?n ?l ?l2 ?h11 ?h18 ?h7 ?h9 ?h10 ?hne ?t
  (case n=>k_is);(case l=>k_is)
  (case l2=>k_is);(case h11=>rfl)
  (case h18=>rfl);(case h7=>rfl);(case h9=>rfl);(case h10=>rfl);(case hne=>rfl)
  (case t=>first | rfl | decide +kernel)
 case F=>
  intro w mg fa h Y KX G hmg
  refine' Wk.F_mk hmg ?T ?U ?V ?ord
  case T=>
   constructor
   all_goals first
    | (
      refine' PySem.W.mg_none_of KX G ?a
      (case a=>k_is))
    | (
      refine'⟨_,PySem.W.mg_of KX G ?a,?r⟩
      (case a=>k_is)
      (case r=>exact⟨_,rfl⟩))
    | (
      refine' Wk.df_mk KX G ?b ?a ?l ?c ?k
      (case a=>k_is)
      (case l=>k_is)
      (case c=>k_is)
      (case k=>k_is)
      (case b=>
       intro _ _ _ _ _ _ us hl
       first
        | exact (match us,hl with | [_],_=>rfl)
        | exact (match us,hl with | [_,_],_=>rfl)
        | exact (match us,hl with | [_,_,_],_=>rfl)
        | exact (match us,hl with | [_,_,_,_],_=>rfl)))
  case U=>
   refine'⟨_,PySem.W.mg_of KX G ?uz,⟨⟨?ub,?uc,?ud,?ue⟩,?uf0,?uf1,?uf2⟩,Wk.mi_mk ?uh ?ui ?uj ?uk ?ul ?um ?un ?uo,Wk.md_mk ?uh0 ?ua0 ?ui0 ?ul0 ?uc0 ?uk0,Wk.md_mk ?uh1 ?ua1 ?ui1 ?ul1 ?uc1 ?uk1,Wk.md_mk ?uh2 ?ua2 ?ui2 ?ul2 ?uc2 ?uk2,Wk.md_mk ?uh3 ?ua3 ?ui3 ?ul3 ?uc3 ?uk3,Wk.md_mk ?uh4 ?ua4 ?ui4 ?ul4 ?uc4 ?uk4,Wk.md_mk ?uh5 ?ua5 ?ui5 ?ul5 ?uc5 ?uk5,Wk.md_mk ?uh6 ?ua6 ?ui6 ?ul6 ?uc6 ?uk6,Wk.md_mk ?uh7 ?ua7 ?ui7 ?ul7 ?uc7 ?uk7,Wk.md_mk ?uh8 ?ua8 ?ui8 ?ul8 ?uc8 ?uk8,Wk.md_mk ?uh9 ?ua9 ?ui9 ?ul9 ?uc9 ?uk9,Wk.md_mk ?uh10 ?ua10 ?ui10 ?ul10 ?uc10 ?uk10,Wk.md_mk ?uh11 ?ua11 ?ui11 ?ul11 ?uc11 ?uk11,Wk.md_mk ?uh12 ?ua12 ?ui12 ?ul12 ?uc12 ?uk12,Wk.md_mk ?uh13 ?ua13 ?ui13 ?ul13 ?uc13 ?uk13,Wk.md_mk ?uh14 ?ua14 ?ui14 ?ul14 ?uc14 ?uk14,Wk.md_mk ?uh15 ?ua15 ?ui15 ?ul15 ?uc15 ?uk15,Wk.md_mk ?uh16 ?ua16 ?ui16 ?ul16 ?uc16 ?uk16,Wk.md_mk ?uh17 ?ua17 ?ui17 ?ul17 ?uc17 ?uk17,Wk.md_mk ?uh18 ?ua18 ?ui18 ?ul18 ?uc18 ?uk18,Wk.md_mk ?uh19 ?ua19 ?ui19 ?ul19 ?uc19 ?uk19,Wk.md_mk ?uh20 ?ua20 ?ui20 ?ul20 ?uc20 ?uk20,Wk.md_mk ?uh21 ?ua21 ?ui21 ?ul21 ?uc21 ?uk21,Wk.md_mk ?uh22 ?ua22 ?ui22 ?ul22 ?uc22 ?uk22,Wk.md_mk ?uh23 ?ua23 ?ui23 ?ul23 ?uc23 ?uk23,Wk.md_mk ?uh24 ?ua24 ?ui24 ?ul24 ?uc24 ?uk24,Wk.md_mk ?uh25 ?ua25 ?ui25 ?ul25 ?uc25 ?uk25,Wk.md_mk ?uh26 ?ua26 ?ui26 ?ul26 ?uc26 ?uk26,Wk.md_mk ?uh27 ?ua27 ?ui27 ?ul27 ?uc27 ?uk27⟩
   (case uz=>k_is)
   all_goals try first
    | k_is
    | (unfold L2.NoAttr;k_is)
    | (
      intro _ _ _ _ _ _ us hl
      first
       | exact (match us,hl with | [_],_=>rfl)
       | exact (match us,hl with | [_,_],_=>rfl)
       | exact (match us,hl with | [_,_,_],_=>rfl))
  case V=>
   refine'⟨_,PySem.W.mg_of KX G ?vz,⟨⟨?vb,?vc,?vd,?ve⟩,?vf0⟩,Wk.mi_mk ?vh ?vi ?vj ?vk ?vl ?vm ?vn ?vo,Wk.md_mk ?vh0 ?va0 ?vi0 ?vl0 ?vc0 ?vk0,Wk.md_mk ?vh1 ?va1 ?vi1 ?vl1 ?vc1 ?vk1,Wk.md_mk ?vh2 ?va2 ?vi2 ?vl2 ?vc2 ?vk2,Wk.md_mk ?vh3 ?va3 ?vi3 ?vl3 ?vc3 ?vk3⟩
   (case vz=>k_is)
   all_goals try first
    | k_is
    | (unfold L2.NoAttr;k_is)
    | (
      intro _ _ _ _ _ _ us hl
      first
       | exact (match us,hl with | [_],_=>rfl)
       | exact (match us,hl with | [_,_],_=>rfl)
       | exact (match us,hl with | [_,_,_],_=>rfl))
  case ord=>
   refine' Wk.ord_mk KX G ?wn ?wl ?wc ?wk ?wm ?w11 ?w18 ?w7 ?w9 ?w10 ?wne
   (case wn=>k_is);(case wl=>k_is);(case wc=>k_is);(case wk=>k_is)
   (case wm=>k_is);(case w11=>rfl)
   (case w18=>rfl);(case w7=>rfl);(case w9=>rfl);(case w10=>rfl);(case wne=>rfl)
 case S=>
  intro w K H xs a hT hwi hask hx
  cases hx with
  |
   cons h1 h2=>
   cases h2
   cases h1 with
   |
    lst hs ha=>
    have e:=L2.ints_dw a.1 _ ha
    subst e
    exact⟨_,a.1,rfl,hs,hask,⟨#[],hT,trivial,.inl rfl⟩,fun H' p hp=>.lst (L2.SqL.of hp) (L2.dw_ints _)⟩
