import PyProof.Rows.All
import Wide.All
import OpenK.AllK
import Wide.FinOn
import PyProof.EqAt
import PyProof.EqKinds
import PyProof.TupleCall
import KE.BitLaws
import Open.SpecLaws
import KE.OsHead
import KE.OsGo
import PyProof.Rows.SortShellAny
import PyProof.WalkInts
import PySem.Challenge.RW_hallrules_s01_answers
import TfLines
import TaflRulesSpec
import PyWqaccy
set_option Elab.async false
set_option linter.all false
set_option maxRecDepth 100000
set_option maxHeartbeats 4000000
namespace L2
open PySem PySem.Spec PyProof.Rows
abbrev Key:=Sum Int Str
def xq:Key->Value->Bool
 | .inl k,v=>Value.isInt k v
 | .inr x,v=>Value.isStrOf x v
def avy(w:World):Key->Int
 | .inl k=>hashInt k
 | .inr x=>hashStr w x
theorem yl:∀{k:Key}{v:Value},xq k v=true->(∃i t,k=Sum.inl i/\v=Value.int i t)\/(∃x t,k=Sum.inr x/\v=Value.str x t)
 | .inl i,v,h=>by
  obtain⟨t,e⟩:=Value.isInt_shape (k:=i) (v:=v) h
  exact .inl ⟨i,t,rfl,e⟩
 | .inr x,v,h=>by
  obtain⟨t,e⟩:=Value.isStrOf_shape (x:=x) (v:=v) h
  exact .inr ⟨x,t,rfl,e⟩
theorem avz(i:Int)(t:Tok):xq (.inl i) (.int i t)=true:=by simp[xq,Value.isInt]
theorem av0(x:Str)(t:Tok):xq (.inr x) (.str x t)=true:=by simp[xq,Value.isStrOf]
theorem av1(a b:Int):decide ((Sum.inl a:Key)=Sum.inl b)=(a==b):=by
 by_cases e:a=b
 ·subst e;simp
 ·have h:¬(Sum.inl a:Key)=Sum.inl b:=λq=>e (Sum.inl.inj q)
  rw[decide_eq_false h]
  exact(beq_eq_false_iff_ne.mpr e).symm
theorem av4(a b:Str):decide ((Sum.inr a:Key)=Sum.inr b)=decide (a=b):=by
 by_cases e:a=b
 ·subst e;simp
 ·have h:¬(Sum.inr a:Key)=Sum.inr b:=λq=>e (Sum.inr.inj q)
  rw[decide_eq_false h,decide_eq_false e]
theorem av2(a:Int)(b:Str):decide ((Sum.inl a:Key)=Sum.inr b)=false:=decide_eq_false (λq=>nomatch q)
theorem av3(a:Str)(b:Int):decide ((Sum.inr a:Key)=Sum.inl b)=false:=decide_eq_false (λq=>nomatch q)
def jz(prog:Program)(w:World):PySem.KeyKind prog w Key where
 is:=xq
 hash:=avy w
 inj:=λv a b ha hb=>by
  rcases yl ha with ⟨i,t,rfl,rfl⟩ | ⟨x,t,rfl,rfl⟩
  ·rcases yl hb with ⟨j,u,rfl,e⟩ | ⟨y,u,rfl,e⟩
   ·injection e with e1 _;rw[e1]
   ·exact nomatch e
  ·rcases yl hb with ⟨j,u,rfl,e⟩ | ⟨y,u,rfl,e⟩
   ·exact nomatch e
   ·injection e with e1 _;rw[e1]
 byValue:=λk v h=>by
  rcases yl h with ⟨i,t,rfl,rfl⟩ | ⟨x,t,rfl,rfl⟩<;>rfl
 pyHash:=λhv h=>by
  rcases yl hv with ⟨i,t,rfl,rfl⟩ | ⟨x,t,rfl,rfl⟩
  ·exact wpAny_pyHash_int h
  ·exact wpAny_pyHash_str h
 eqBool:=λhu hv h=>by
  rcases yl hu with ⟨i,t,rfl,rfl⟩ | ⟨x,t,rfl,rfl⟩
  ·rcases yl hv with ⟨j,u,rfl,rfl⟩ | ⟨y,u,rfl,rfl⟩
   ·rw[av1]at h;exact wpAny_eqBool_int h
   ·rw[av2]at h;exact SeqAt.EqAt.int_str i t y u _ _ _ _ h
  ·rcases yl hv with ⟨j,u,rfl,rfl⟩ | ⟨y,u,rfl,rfl⟩
   ·rw[av3]at h;exact SeqAt.EqAt.str_int x t j u _ _ _ _ h
   ·rw[av4]at h;exact wpAny_eqBool_str h
 «strs»:=λk x t v h=>by
  rcases yl h with ⟨i,u,rfl,e⟩ | ⟨y,u,rfl,e⟩
  ·exact nomatch e
  ·injection e with e1 _
   subst e1
   cases v<;>rfl
theorem awz(prog:Program)(w:World)(i:Int)(t:Tok):(jz prog w).is (.inl i) (.int i t)=true:=avz i t
theorem aw0(prog:Program)(w:World)(x:Str)(t:Tok):(jz prog w).is (.inr x) (.str x t)=true:=av0 x t
inductive V where
 | non | bl (b:Bool) | int (i:Int) | str (x:Str) | byt (b:Array UInt8) | flt (b:UInt64) | ref (a:Addr) | ty (n:String)
 deriving DecidableEq
def RelV:V->Value->Prop
 | .non,u=>u=Value.none
 | .bl b,u=>u=Value.bool b
 | .int i,u=>∃t,u=Value.int i t
 | .str x,u=>∃t,u=Value.str x t
 | .byt b,u=>∃t,u=Value.bytes b t
 | .flt b,u=>∃t,u=Value.float b t
 | .ref a,u=>u=Value.ref a
 | .ty n,u=>u=Value.type n
abbrev Vals:List V->List Value->Prop:=Paired RelV
theorem Vals.length{xs:List V}{us:List Value}(r:Vals xs us):xs.length=us.length:=Paired.length r
theorem Vals.get:∀{xs:List V}{us:List Value}{i:Nat}{x:V},Vals xs us->xs[i]? = some x->∃u,us[i]? = some u/\RelV x u
 | _,_,_,_,.nil,e=>by simp at e
 | _,_,0,_,.cons r _,e=>by simp at e;subst e;exact⟨_,rfl,r⟩
 | _,_,i+1,x,.cons _ t,e=>by
  obtain⟨u,h1,h2⟩:=Vals.get (i:=i) (x:=x) t (by simpa using e)
  exact⟨u,by simpa using h1,h2⟩
theorem Vals.append:∀{xs ys:List V}{us ws:List Value},Vals xs us->Vals ys ws->Vals (xs++ys) (us++ws)
 | _,_,_,_,.nil,s=>s
 | _,_,_,_,.cons r t,s=>.cons r (Vals.append t s)
theorem Vals.take:∀{xs:List V}{us:List Value}(n:Nat),Vals xs us->Vals (xs.take n) (us.take n)
 | _,_,0,_=>.nil
 | _,_,_+1,.nil=>.nil
 | _,_,n+1,.cons r t=>.cons r (Vals.take n t)
theorem Vals.drop:∀{xs:List V}{us:List Value}(n:Nat),Vals xs us->Vals (xs.drop n) (us.drop n)
 | _,_,0,r=>r
 | _,_,_+1,.nil=>.nil
 | _,_,n+1,.cons _ t=>Vals.drop n t
def mz:Option V->Option Value->Prop
 | some v,some u=>RelV v u
 | none,none=>True
 | _,_=>False
def KV{κ:Type}:List (κ×V)->List (κ×Value)->Prop:=Paired λ(p:κ×V) (q:κ×Value)=>p.1=q.1/\RelV p.2 q.2
def kV:Key->V
 | .inl i=>.int i
 | .inr x=>.str x
inductive HO where
 | lst (xs:List V)
 | tup (xs:List V)
 | dK (kvs:List (Key×V)) | dT (kvs:List (List Key×V))
 | set (S:Int->Bool) (n:Nat)
 | ins (C dx:Addr) (fs:List (Str×V))
 | own (x:Addr)
 | xd (fs:List (Str×V))
 | met (f x:Addr)
 | rng (lo hi:Int)
 | frz (o:Obj) (u:HO)
 | tbl (ps:Array Value)
 | ext (φ:Heap->Prop)
abbrev Hp:=Addr->Option HO
def upd(H:Hp)(a:Addr)(o:HO):Hp:=λb=>if b=a then some o else H b
theorem ak{H:Hp}{a:Addr}{o:HO}:upd H a o a=some o:=by unfold upd;rw[if_pos rfl]
theorem ao{H:Hp}{a b:Addr}{o:HO}(h:b≠a):upd H a o b=H b:=by unfold upd;rw[if_neg h]
theorem yz{H:Hp}{a:Addr}{o u:HO}:upd (upd H a o) a u=upd H a u:=by
 funext b;unfold upd;split<;>rfl
theorem gb{H:Hp}{a b:Addr}{o u:HO}(h:H a=some o)(h':H b=some u)(d:o≠u):a≠b:=by
 intro e;subst e;rw[h]at h';exact d (Option.some.inj h')
theorem bx{H:Hp}{a b:Addr}{o:HO}(h:H a=some o)(h':H b=none):a≠b:=by
 intro e;subst e;rw[h]at h';cases h'
section
variable(P:Program)(w:World)
def gq(H:Hp)(h:Heap)(a:Addr):HO->Prop
 | .lst xs=>xs.length<=sizeLine/\∃(its:List Value) (n:Nat),Vals xs its/\h.get? a=some {cls:=.type "list",data:=.seq its.toArray n}
 | .tup xs=>xs.length<=sizeLine/\∃its:List Value,Vals xs its/\IsTup h a its.toArray
 | .dK kvs=>kvs.length<=sizeLine/\(a==sysModules)=false/\∃vs,KV kvs vs/\h.DictOf (jz P w) a vs
 | .dT kvs=>kvs.length<=sizeLine/\(a==sysModules)=false/\∃xs:List (List Key×Addr×Value),
   Paired (λ(p:List Key×V) (q:List Key×Addr×Value)=>p.1=q.1/\H q.2.1=some (.tup (p.1.map kV))/\RelV p.2 q.2.2) kvs xs /\
   ∃o es ep,h.get? a=some o/\o.ExactDict/\o.data=.dict es ep/\es.toList=xs.map (entryOfKey (tupleKind (jz P w)))/\(xs.map (·.1)).Nodup
 | .set S n=>h.SetOf (intKind P w) a S n
 | .ins C dx fs=>H dx=some (.own a)/\fs.length<=1000/\dx≠a/\h.get? a=some (PySem.W.instObj C dx) /\
   ∃mA,h.Ns1 dx mA/\(∀f,mz (fs.lookup f) (mA f))/\PySem.Within mA (fs.map (·.1))
 | .own _=>∃o,h.get? a=some o
 | .xd fs=>∃mA,h.Ns1 a mA/\∀f,mz (fs.lookup f) (mA f)
 | .rng lo hi=>∃t u v,h.get? a=some {cls:=.type "range",data:=.fields #[.int lo t,.int hi u,.int 1 v]}
 | .frz o u=>h.get? a=some o/\gq H h a u
 | .tbl ps=>h.get? a=some {cls:=.none,data:=.fields ps}
 | .met f x=>h.get? a=some (PySem.W.methodObj (.ref f) (.ref x))
 | .ext φ=>φ h/\(∃o,h.get? a=some o)/\∀h1 h2:Heap,φ h1->(∀o,h1.get? a=some o->h2.get? a=some o)->φ h2
def HOk(H:Hp)(h:Heap):Prop:=∀a o,H a=some o->gq P w H h a o
end
section
variable{P:Program}{w:World}{H H':Hp}{h h':Heap}{a:Addr}{o:HO}
theorem gq.lt(x:gq P w H h a o):a<h.objs.size:=by
 cases o with
 | lst xs=>obtain⟨_,_,_,_,e⟩:=x;exact Heap.lt_size e
 | tup xs=>obtain⟨_,_,_,p⟩:=x;exact p.lt
 | dK kvs=>obtain⟨_,_,_,_,o,_,_,e,_⟩:=x;exact Heap.lt_size e
 | dT kvs=>obtain⟨_,_,_,_,o,_,_,e,_⟩:=x;exact Heap.lt_size e
 | set S n=>obtain⟨o,_,_,_,e,_⟩:=x;exact Heap.lt_size e
 | ins C dx fs=>obtain⟨_,_,_,e,_⟩:=x;exact Heap.lt_size e
 | own y=>obtain⟨_,e⟩:=x;exact Heap.lt_size e
 | xd fs=>obtain⟨_,⟨_,_,_,e,_⟩,_⟩:=x;exact Heap.lt_size e
 | rng lo hi=>obtain⟨_,_,_,e⟩:=x;exact Heap.lt_size e
 | frz ob u=>obtain⟨e,_⟩:=x;exact Heap.lt_size e
 | tbl ps=>exact Heap.lt_size (show h.get? a=some _ from x)
 | met f y=>exact Heap.lt_size (show h.get? a=some _ from x)
 | ext φ=>obtain⟨_,⟨_,e⟩,_⟩:=x;exact Heap.lt_size e
theorem Paired.ahr{α β:Type}{F G:α->β->Prop}:∀{l₁:List α}{l₂:List β},Paired F l₁ l₂->(∀a b,F a b->G a b)->Paired G l₁ l₂
 | _,_,.nil,_=>.nil
 | _,_,.cons r t,f=>.cons (f _ _ r) (Paired.ahr t f)
theorem gq.stay(x:gq P w H h a o)(k:∀b u,(b=a\/H b=some (.own a))->h.get? b=some u->h'.get? b=some u)
  (ho:∀b,H b=some (.own a)->H' b=some (.own a)) (ht:∀b xs,H b=some (.tup xs)->H' b=some (.tup xs)):gq P w H' h' a o:=by
 induction o with
 | lst xs=>obtain⟨z,its,n,r,e⟩:=x;exact⟨z,its,n,r,k _ _ (.inl rfl) e⟩
 | tup xs=>obtain⟨z,its,r,ob,e,c⟩:=x;exact⟨z,its,r,ob,k _ _ (.inl rfl) e,c⟩
 | dK kvs=>obtain⟨z,y,vs,r,ob,es,ep,e,c⟩:=x;exact⟨z,y,vs,r,ob,es,ep,k _ _ (.inl rfl) e,c⟩
 | dT kvs =>
  obtain⟨z,y,xs,r,ob,es,ep,e,c⟩:=x
  exact⟨z,y,xs,Paired.ahr r λp q z=>⟨z.1,ht _ _ z.2.1,z.2.2⟩,ob,es,ep,k _ _ (.inl rfl) e,c⟩
 | set S n=>obtain⟨ob,es,ep,t,e,c⟩:=x;exact⟨ob,es,ep,t,k _ _ (.inl rfl) e,c⟩
 | ins C dx fs =>
  obtain⟨d,z,ne,e,mA,⟨od,es,ep,e2,c⟩,r⟩:=x
  exact⟨ho _ d,z,ne,k _ _ (.inl rfl) e,mA,⟨od,es,ep,k _ _ (.inr d) e2,c⟩,r⟩
 | own y=>obtain⟨ob,e⟩:=x;exact⟨ob,k _ _ (.inl rfl) e⟩
 | xd fs=>obtain⟨mA,⟨od,es,ep,e,c⟩,r⟩:=x;exact⟨mA,⟨od,es,ep,k _ _ (.inl rfl) e,c⟩,r⟩
 | rng lo hi=>obtain⟨t,u,v,e⟩:=x;exact⟨t,u,v,k _ _ (.inl rfl) e⟩
 | frz ob u ih=>obtain⟨e,q⟩:=x;exact⟨k _ _ (.inl rfl) e,ih q⟩
 | tbl ps =>
  have e:h.get? a=some {cls:=.none,data:=.fields ps}:=x
  show h'.get? a=some {cls:=.none,data:=.fields ps}
  exact k a _ (.inl rfl) e
 | met f y =>
  have e:h.get? a=some (PySem.W.methodObj (.ref f) (.ref y)):=x
  show h'.get? a=some (PySem.W.methodObj (.ref f) (.ref y))
  exact k a _ (.inl rfl) e
 | ext φ=>obtain⟨p,⟨o,e⟩,st⟩:=x;exact⟨st _ _ p λo q=>k _ _ (.inl rfl) q,⟨o,k _ _ (.inl rfl) e⟩,st⟩
theorem HOk.lt(x:HOk P w H h)(e:H a=some o):a<h.objs.size:=(x a o e).lt
theorem HOk.fresh(x:HOk P w H h)(e:h.objs.size<=a):H a=none:=by
 cases q:H a with
 | none=>rfl
 | some u=>exact absurd (Nat.lt_of_lt_of_le (x.lt q) e) (Nat.lt_irrefl _)
theorem HOk.kept(x:HOk P w H h)(k:∀b u,h.get? b=some u->h'.get? b=some u):HOk P w H h':=λa o e =>
 (x a o e).stay (λb u _ q=>k b u q) (λ_ q=>q) λ_ _ q=>q
theorem HOk.laid(x:HOk P w H h)(k:∀b u,h.get? b=some u->h'.get? b=some u)(hp:h.objs.size<=a)(new:gq P w (upd H a o) h' a o):HOk P w (upd H a o) h':=λb u e=>by
 have hn:=x.fresh hp
 by_cases hb:b=a
 ·subst hb;rw[ak]at e;cases e;exact new
 ·rw[ao hb]at e
  exact(x b u e).stay (λc v _ q=>k c v q) (λc q=>by rw[ao (bx q hn)];exact q) λc xs q=>by rw[ao (bx q hn)];exact q
end
def Rd(H:Hp)(a:Addr)(u:HO):Prop:=H a=some u\/∃o,H a=some (.frz o u)
theorem Rd.ok{P:Program}{w:World}{H:Hp}{h:Heap}{a:Addr}{u:HO}(r:Rd H a u)(x:HOk P w H h):gq P w H h a u:=by
 rcases r with r | ⟨o,r⟩
 ·exact x a u r
 ·obtain⟨_,q⟩:=x a _ r
  exact q
def Mut:Option HO->Prop
 | some (.lst _)=>True
 | some (.dK _)=>True
 | some (.dT _)=>True
 | some (.set _ _)=>True
 | some (.ins _ _ _)=>True
 | some (.ext _)=>True
 | _=>False
section
variable{P:Program}{w:World}{H:Hp}{h h':Heap}{x e:Addr}{o':HO}
theorem HOk.write(ok:HOk P w H h)(mu:Mut (H x))(he:e=x\/H e=some (.own x))(k:∀b u,b≠e->h.get? b=some u->h'.get? b=some u)(heo:∃u,h'.get? e=some u)
  (new:gq P w (upd H x o') h' x o'):HOk P w (upd H x o') h':=λb u q=>by
 have nown:∀c y,H c=some (.own y)->c≠x:=λc y r z=>by subst z;rw[r]at mu;exact mu
 have ntup:∀c xs,H c=some (.tup xs)->c≠x:=λc xs r z=>by subst z;rw[r]at mu;exact mu
 by_cases hb:b=x
 ·subst hb;rw[ak]at q;cases q;exact new
 ·rw[ao hb]at q
  by_cases hbe:b=e
  ·have q':H b=some (.own x):=by
    rcases he with z | z
    ·exact absurd (hbe.trans z) hb
    ·rw[hbe];exact z
   rw[q]at q';cases q'
   obtain⟨v,hv⟩:=heo
   exact⟨v,by rw[hbe];exact hv⟩
  ·refine(ok b u q).stay (λc v hc r=>k c v ?_ r) (λc r=>by rw[ao (nown c b r)];exact r) λc xs r=>by rw[ao (ntup c xs r)];exact r
   rcases hc with rfl | hc
   ·exact hbe
   ·rintro rfl
    rcases he with z | z
    ·exact nown c b hc z
    ·rw[hc]at z;cases z;exact hb rfl
end
structure Un(fs ex:List Addr)(H H':Hp)(h h':Heap):Prop where
 keep:∀b o,h.get? b=some o->H b=none->b∉fs->b∉ex->h'.get? b=some o
 slot:∀b o,h.get? b=some o->H b=none->b∈fs->b∉ex->∃sl,h'.get? b=some {o with slots:=sl}
 free:∀b o,h.get? b=some o->H b=none->b∉ex->H' b=none
 there:∀b o,h.get? b=some o->b∉ex->∃o',h'.get? b=some o'
 tups:∀b xs,H b=some (.tup xs)->H' b=some (.tup xs)
 frzs:∀b o u,H b=some (.frz o u)->H' b=some (.frz o u)
 tbls:∀b ps,H b=some (.tbl ps)->∃more,H' b=some (.tbl (ps++more))
section
variable{fs fs' ex ex':List Addr}{H H1 H2:Hp}{h h1 h2 h':Heap}{a x e:Addr}{o:HO}
theorem Un.any(u:Un fs ex H H1 h h1){b:Addr}{ob:Obj}(q:h.get? b=some ob)(n:H b=none)(hx:b∉ex):∃sl,h1.get? b=some {ob with slots:=sl}:=by
 by_cases hb:b∈fs
 ·exact u.slot b ob q n hb hx
 ·exact⟨ob.slots,u.keep b ob q n hb hx⟩
theorem Un.kept(k:∀b u,h.get? b=some u->h'.get? b=some u):Un fs ex H H h h' :=
 ⟨λb ob q _ _ _=>k b ob q,λb ob q _ _ _=>⟨ob.slots,k b ob q⟩,λ_ _ _ n _=>n,λb ob q _=>⟨ob,k b ob q⟩,λ_ _ q=>q,λ_ _ _ q=>q,λ_ ps q=>⟨#[],by rw[q];simp⟩⟩
theorem Un.refl:Un fs ex H H h h:=Un.kept λ_ _ q=>q
theorem Un.laid(k:∀b u,h.get? b=some u->h'.get? b=some u)(hp:h.objs.size<=a)(hn:H a=none):Un fs ex H (upd H a o) h h' where
 keep:=λb u q _ _ _=>k b u q
 slot:=λb u q _ _ _=>⟨u.slots,k b u q⟩
 free:=λb u q n _=>by rw[ao (Nat.ne_of_lt (Nat.lt_of_lt_of_le (Heap.lt_size q) hp))];exact n
 there:=λb u q _=>⟨u,k b u q⟩
 tups:=λb xs q=>by rw[ao (bx q hn)];exact q
 frzs:=λb u xs q=>by rw[ao (bx q hn)];exact q
 tbls:=λb ps q=>⟨#[],by rw[ao (bx q hn),q];simp⟩
theorem Un.write(mu:Mut (H x))(he:e=x\/H e=some (.own x))(k:∀b u,b≠e->h.get? b=some u->h'.get? b=some u)(heo:∃u,h'.get? e=some u):Un fs ex H (upd H x o) h h':=by
 have hx:∀b,H b=none->b≠x:=λb n z=>by subst z;rw[n]at mu;exact mu
 have hb:∀b,H b=none->b≠e:=λb n z=>by
  subst z
  rcases he with r | r
  ·exact hx b n r
  ·rw[n]at r;cases r
 have hm:∀b u,H b=some u->¬Mut (some u)->b≠x:=λb u q nm z=>by subst z;rw[q]at mu;exact nm mu
 refine⟨λb u q n _ _=>k b u (hb b n) q,λb u q n _ _=>⟨u.slots,k b u (hb b n) q⟩,λb u q n _=>by rw[ao (hx b n)];exact n,λb u q _=>?_,
  λb xs q=>by rw[ao (hm b _ q λz=>z)];exact q,λb u xs q=>by rw[ao (hm b _ q λz=>z)];exact q,λb ps q=>⟨#[],by rw[ao (hm b _ q λz=>z),q];simp⟩⟩
 by_cases hbe:b=e
 ·subst hbe;exact heo
 ·exact⟨u,k b u hbe q⟩
end
def trk(h:Heap)(H:Hp):List Addr:=(List.range h.objs.size).filter λa=>(H a).isSome
def zg(h:Heap)(H:Hp):Heap:=PySem.W.hideAll h (trk h H)
theorem au7(h:Heap)(H:Hp):(zg h H).objs.size=h.objs.size:=PySem.W.hideAll_size _ _
theorem au6{h:Heap}{H:Hp}{b:Addr}{o:Obj}(e:h.get? b=some o)(n:H b=none):(zg h H).get? b=some o :=
 PySem.W.hideAll_get _ e λhm=>by
  have q:(H b).isSome=true:=(List.mem_filter.mp hm).2
  rw[n]at q;simp at q
theorem axg{h:Heap}{H:Hp}{b:Addr}{o:Obj}(e:(zg h H).get? b=some o):h.get? b=some o/\H b=none:=by
 have e':h.get? b=some o:=PySem.W.of_hideAll (trk h H) e
 refine⟨e',?_⟩
 cases q:H b with
 | none=>rfl
 | some x =>
  have hm:b∈trk h H:=List.mem_filter.mpr ⟨List.mem_range.mpr (Heap.lt_size e'),by simp[q]⟩
  have z:(zg h H).get? b=none:=PySem.W.hideAll_none (trk h H) hm
  rw[z]at e;cases e
def as5(g h:Heap)(L:Addr):List (Addr×Obj):=(List.range h.objs.size).filterMap λa=>if a=L\/(g.get? a).isSome=true then none else(h.get? a).map λo=>(a,o)
def rest(g h:Heap)(L d:Addr):List (Addr×Obj):=(as5 g h L).filter λp=>decide (p.1≠d)
structure Mod(K:PySem.W.Frag)(mg:Str->Option Value)(base:Heap):Prop where
 kin:K.In base
 glob:base.Ns mainGlobals mg
 blt:∃mb,base.Ns builtinsNs mb/\∀x:Str,x ≠ "__name__" -> mb x=bootBuiltins x
 nolimit:base.NoLimit
structure Cx where
 prog:Program
 w:World
 K:PySem.W.Frag
 mg:Str->Option Value
 base:Heap
 A:Around
 N:List Str
 s_0:Shared
 H_0:Hp
 env:Env
 outer:List Env
 stack:List Env
 ex:List Addr
 fn:Str->Bool
 calm:Bool
 pn:List (Addr×Obj)
 xe:Value->Shared->Prop
def frs(l:List Env):List Addr:=l.filterMap (·.frame)
abbrev Cx.fs(X:Cx):List Addr:=frs X.outer
def Vis(sc:Scope)(x:Str):Prop:=sc.names.lookup x=some .local\/sc.names.lookup x=some .cell\/sc.names.lookup x=some .free
def Loc(sc:Scope)(x:Str):Prop:=sc.names.lookup x=some .local\/sc.names.lookup x=some .cell
def Look(env:Env)(h:Heap)(m:Str->Option Value)(x:Str)(u:Value):Prop :=
 (env.kindOf x=some .local/\m x=some u)\/((env.kindOf x=some .cell\/env.kindOf x=some .free)/\∃c,env.cells.lookup x=some c/\h.IsCell c (some u))
structure Cx.Ok(X:Cx):Prop where
 mod:Mod X.K X.mg X.base
 kind:X.env.scope.kind=.function
 glob:X.env.globals=mainGlobals
 blt:X.env.builtins=builtinsNs
 above:X.s_0.heap.objs.size<=X.env.locals
 inj:∀x y c,X.env.cells.lookup x=some c->X.env.cells.lookup y=some c->x=y
 has:∀x,(X.env.kindOf x=some .cell\/X.env.kindOf x=some .free)->∃c,X.env.cells.lookup x=some c
 cab:∀x c,X.fn x=true->X.env.cells.lookup x=some c->X.s_0.heap.objs.size<=c
 hd:X.calm=true->X.A.handled=none
 frames:X.A.frames=some X.stack
 stk:X.stack=X.outer\/(X.stack=X.env::X.outer/\X.env.frame=some X.env.locals)
 exf:∀b∈X.ex,b≠X.env.locals/\∀x c,X.env.cells.lookup x=some c->c≠b
 bs:∀b o,X.base.get? b=some o->X.s_0.heap.get? b=some o/\X.H_0 b=none
 bsz:X.base.objs.size<=X.s_0.heap.objs.size
 noex:∀b o,X.base.get? b=some o->b∉X.ex
 exfs:∀b∈X.ex,b∉X.fs
 lr:X.s_0.heap.FunFrames X.base X.outer
 frf:∀b∈X.fs,X.H_0 b=none
structure Inv(X:Cx)(pins:List (Addr×Obj))(σ:List (Option V))(H:Hp)(s:Shared):Prop where
 ok:X.Ok
 os:s.os=X.s_0.os
 bare:AllBare s.gens
 base:Un X.fs X.ex X.H_0 H X.s_0.heap s.heap
 loc:∃m,s.heap.Ns X.env.locals m/\∀(i:Nat) (x:Str) (v:V),X.N[i]? = some x->σ[i]? = some (some v)->Vis X.env.scope x->∃u,RelV v u/\Look X.env s.heap m x u
 cell:∀x c,X.env.cells.lookup x=some c->∃v,s.heap.IsCell c v
 free:H X.env.locals=none
 freeC:∀x c,X.env.cells.lookup x=some c->H c=none
 pin:∀p∈X.pn++pins,s.heap.get? p.1=some p.2/\H p.1=none/\p.1≠X.env.locals/\p.1∉X.fs/\∀v,p.2.data≠.cell v
 hok:HOk X.prog X.w H s.heap
 len:σ.length=X.N.length
section
variable{X:Cx}{pins:List (Addr×Obj)}{σ:List (Option V)}{H H':Hp}{s:Shared}{h':Heap}
theorem Cx.Ok.aw7(ok:X.Ok){b:Addr}{o:Obj}(e:X.base.get? b=some o):b∉X.fs:=λhb=>by
 have:=(ok.lr.mem hb).1
 rw[e]at this;cases this
theorem Inv.bs(I:Inv X pins σ H s):∀b o,X.base.get? b=some o->s.heap.get? b=some o/\H b=none:=λb o e =>
 ⟨I.base.keep b o (I.ok.bs b o e).1 (I.ok.bs b o e).2 (I.ok.aw7 e) (I.ok.noex b o e),I.base.free b o (I.ok.bs b o e).1 (I.ok.bs b o e).2 (I.ok.noex b o e)⟩
theorem Inv.bk(I:Inv X pins σ H s):∀b o,X.base.get? b=some o->s.heap.get? b=some o:=λb o e=>(I.bs b o e).1
theorem Inv.mod(I:Inv X pins σ H s):Mod X.K X.mg X.base:=I.ok.mod
theorem Inv.kIn(I:Inv X pins σ H s):X.K.In s.heap:=I.ok.mod.kin.keeps I.bk
theorem Inv.fr(I:Inv X pins σ H s):∃m,Fr X.base X.env.locals s.heap m :=
 let ⟨m,hn,_⟩:=I.loc
 ⟨m,hn,I.bk,Nat.le_trans I.ok.bsz I.ok.above⟩
theorem Inv.lt(I:Inv X pins σ H s):X.env.locals<s.heap.objs.size:=let ⟨_,hn,_⟩:=I.loc;hn.lt
theorem Inv.sz(I:Inv X pins σ H s):X.s_0.heap.objs.size<=s.heap.objs.size:=Nat.le_trans I.ok.above (Nat.le_of_lt I.lt)
theorem Inv.aw8(I:Inv X pins σ H s){a:Addr}(h:s.heap.objs.size<=a):a∉X.fs:=λhb=>by
 obtain⟨_,o,ho,_⟩:=I.ok.lr.mem hb
 exact absurd (Nat.lt_of_lt_of_le (Heap.lt_size ho) (Nat.le_trans I.sz h)) (Nat.lt_irrefl _)
theorem Inv.cne(I:Inv X pins σ H s):∀x c,X.env.cells.lookup x=some c->c≠X.env.locals:=λx c e z=>by
 obtain⟨v,o,ho,hd⟩:=I.cell x c e
 obtain⟨m,⟨o',es,ep,ho',hd',_⟩,_⟩:=I.loc
 rw[z,ho']at ho;cases ho;rw[hd']at hd;cases hd
theorem Inv.lr(I:Inv X pins σ H s):s.heap.FunFrames X.base X.outer:=by
 have all:∀(l:List Env),(∀b∈frs l,b∈X.fs)->X.s_0.heap.FunFrames X.base l->s.heap.FunFrames X.base l:=by
  intro l
  induction l with
  | nil=>intro _ _;trivial
  | cons env r ih =>
   intro hs hl
   obtain⟨hk,⟨L,o,hf,hn,ho,hd⟩,hr⟩:=hl
   have hL:L∈X.fs:=hs L (by unfold frs;rw[List.filterMap_cons,hf];exact List.mem_cons_self)
   obtain⟨sl,e⟩:=I.base.slot L o ho (I.ok.frf L hL) hL λz=>I.ok.exfs L z hL
   exact⟨hk,⟨L,_,hf,hn,e,hd⟩,ih (λb hb=>hs b (by unfold frs;rw[List.filterMap_cons,hf];exact List.mem_cons_of_mem _ hb)) hr⟩
 exact all X.outer (λ_ hb=>hb) I.ok.lr
theorem Inv.stack(I:Inv X pins σ H s):s.heap.FunFrames X.base X.stack:=by
 rcases I.ok.stk with e | ⟨e,hf⟩
 ·rw[e];exact I.lr
 ·rw[e]
  obtain⟨m,hn,_⟩:=I.loc
  refine .cons (by rw[I.ok.kind];decide) hf hn ?_ I.lr
  exact Heap.get?_none_of_le (Nat.le_trans I.ok.bsz I.ok.above)
theorem Inv.ad6(I:Inv X pins σ H s):∀b∈frs X.stack,b∈X.env.locals::X.fs:=λb hb=>by
 rcases I.ok.stk with e | ⟨e,hf⟩
 ·rw[e]at hb;exact List.mem_cons_of_mem _ hb
 ·rw[e]at hb
  unfold frs at hb
  rw[List.filterMap_cons,hf]at hb
  exact hb
theorem Inv.akh(I:Inv X pins σ H s):∀b∈frs X.stack,H b=none:=λb hb=>by
 rcases List.mem_cons.mp (I.ad6 b hb)with e | hb
 ·rw[e];exact I.free
 ·obtain⟨_,o,ho,_⟩:=I.ok.lr.mem hb
  exact I.base.free b o ho (I.ok.frf b hb) λz=>I.ok.exfs b z hb
theorem Inv.step{g':Array GenState}{t':Nat}{d':Drawn}{ch:List Addr}(I:Inv X pins σ H s)
  (hch:∀b∈ch,(b∈X.ex\/X.s_0.heap.objs.size<=b)/\b≠X.env.locals/\(∀x c,X.env.cells.lookup x=some c->c≠b)/\∀p∈X.pn++pins,p.1≠b)
  (keep:∀b o,b≠X.env.locals->b∉X.fs->b∉ch->s.heap.get? b=some o->H b=none->h'.get? b=some o)
  (slot:∀b o,b≠X.env.locals->b∈X.fs->b∉ch->s.heap.get? b=some o->H b=none->∃sl,h'.get? b=some {o with slots:=sl}) (free:∀b o,b∉ch->s.heap.get? b=some o->H b=none->H' b=none)
  (there:∀b o,b∉ch->s.heap.get? b=some o->∃o',h'.get? b=some o')
  (tups:∀b xs,H b=some (.tup xs)->H' b=some (.tup xs)) (frzs:∀b o u,H b=some (.frz o u)->H' b=some (.frz o u)) (tbls:∀b ps,H b=some (.tbl ps)->∃more,H' b=some (.tbl (ps++more)))
  (ns:∀m,s.heap.Ns X.env.locals m->h'.Ns X.env.locals m) (hok:HOk X.prog X.w H' h') (hg:AllBare g') :
  Inv X pins σ H' {s with heap:=h',gens:=g',drawn:=d',toks:=t'}:=by
 have neL:∀b o,X.s_0.heap.get? b=some o->b≠X.env.locals:=λb o e=>Nat.ne_of_lt (Nat.lt_of_lt_of_le (Heap.lt_size e) I.ok.above)
 have neC:∀b o,X.s_0.heap.get? b=some o->b∉X.ex->b∉ch:=λb o e hx hb=>by
  rcases(hch b hb).1 with z | z
  ·exact hx z
  ·exact absurd (Nat.lt_of_lt_of_le (Heap.lt_size e) z) (Nat.lt_irrefl _)
 have cellK:∀x c,X.env.cells.lookup x=some c->∀v,s.heap.IsCell c v->h'.IsCell c v:=λx c e v ⟨o,ho,hd⟩=>by
  have nch:c∉ch:=λz=>(hch c z).2.2.1 x c e rfl
  by_cases hc:c∈X.fs
  ·obtain⟨sl,q⟩:=slot c o (I.cne x c e) hc nch ho (I.freeC x c e)
   exact⟨_,q,hd⟩
  ·exact⟨o,keep c o (I.cne x c e) hc nch ho (I.freeC x c e),hd⟩
 refine⟨I.ok,I.os,hg,⟨λb o e n hb hx=>?_,λb o e n hb hx=>?_,λb o e n hx=>?_,λb o e hx=>?_,λb xs e=>tups b xs (I.base.tups b xs e),λb o xs e=>frzs b o xs (I.base.frzs b o xs e),λb ps e=>?_⟩,?_,λx c e=>?_,?_,λx c e=>?_,λp hp=>?_,hok,I.len⟩
 ·exact keep b o (neL b o e) hb (neC b o e hx) (I.base.keep b o e n hb hx) (I.base.free b o e n hx)
 ·obtain⟨sl,e1⟩:=I.base.slot b o e n hb hx
  obtain⟨sl',e2⟩:=slot b _ (neL b o e) hb (neC b o e hx) e1 (I.base.free b o e n hx)
  exact⟨sl',e2⟩
 ·obtain⟨o',e1⟩:=I.base.there b o e hx
  exact free b o' (neC b o e hx) e1 (I.base.free b o e n hx)
 ·obtain⟨o',e1⟩:=I.base.there b o e hx
  exact there b o' (neC b o e hx) e1
 ·obtain⟨m1,e1⟩:=I.base.tbls b ps e
  obtain⟨m2,e2⟩:=tbls b _ e1
  exact⟨m1++m2,by rw[e2,Array.append_assoc]⟩
 ·obtain⟨m,hn,hl⟩:=I.loc
  refine⟨m,ns m hn,λi x v e1 e2 e3=>?_⟩
  obtain⟨u,r,l⟩:=hl i x v e1 e2 e3
  refine⟨u,r,?_⟩
  rcases l with l | ⟨k,c,e,z⟩
  ·exact .inl l
  ·exact .inr ⟨k,c,e,cellK x c e _ z⟩
 ·obtain⟨v,z⟩:=I.cell x c e
  exact⟨v,cellK x c e v z⟩
 ·obtain⟨m,⟨o,_,_,ho,_⟩,_⟩:=I.loc
  exact free _ o (λz=>(hch _ z).2.1 rfl) ho I.free
 ·obtain⟨v,o,ho,hd⟩:=I.cell x c e
  exact free c o (λz=>(hch c z).2.2.1 x c e rfl) ho (I.freeC x c e)
 ·obtain⟨e,n,ne,nf,d⟩:=I.pin p hp
  have nch:p.1∉ch:=λz=>(hch p.1 z).2.2.2 p hp rfl
  exact⟨keep p.1 p.2 ne nf nch e n,free p.1 p.2 nch e n,ne,nf,d⟩
theorem Inv.un{t':Nat}(I:Inv X pins σ H s)(u:Un X.fs [] H H' s.heap h')(hok:HOk X.prog X.w H' h'):Inv X pins σ H' {s with heap:=h',toks:=t'}:=by
 obtain⟨m,⟨o,es,ep,ho,r⟩,_⟩:=id I.loc
 obtain⟨sl,hL⟩:=u.any ho I.free (by simp)
 exact I.step (g':=s.gens) (d':=s.drawn) (ch:=[]) (λ_ z=>nomatch z) (λb o _ hb _ e n=>u.keep b o e n hb (by simp)) (λb o _ hb _ e n=>u.slot b o e n hb (by simp)) (λb o _ e n=>u.free b o e n (by simp)) (λb o _ e=>u.there b o e (by simp)) u.tups u.frzs u.tbls (λm' hm=>by
  obtain⟨o',es',ep',ho',r'⟩:=hm
  rw[ho]at ho';cases ho'
  exact⟨_,es',ep',hL,r'⟩) hok I.bare
theorem Inv.call{g':Array GenState}{t':Nat}{d':Drawn}{ch:List Addr}(I:Inv X pins σ H s)(u:Un (frs X.stack) ch H H' s.heap h')(hok:HOk X.prog X.w H' h')(hg:AllBare g')
  (hch:∀b∈ch,(b∈X.ex\/X.s_0.heap.objs.size<=b)/\b≠X.env.locals/\(∀x c,X.env.cells.lookup x=some c->c≠b)/\∀p∈X.pn++pins,p.1≠b) :
  Inv X pins σ H' {s with heap:=h',gens:=g',drawn:=d',toks:=t'}:=by
 obtain⟨m,⟨o,es,ep,ho,r⟩,_⟩:=id I.loc
 obtain⟨sl,hL⟩:=u.any ho I.free λz=>(hch _ z).2.1 rfl
 exact I.step (ch:=ch) hch (λb o hL hb hc e n=>u.keep b o e n (λz=>(List.mem_cons.mp (I.ad6 b z)).elim hL hb) hc) (λb o _ _ hc e n=>u.any e n hc) (λb o hc e n=>u.free b o e n hc) (λb o hc e=>u.there b o e hc) u.tups u.frzs u.tbls (λm' hm=>by
  obtain⟨o',es',ep',ho',r'⟩:=hm
  rw[ho]at ho';cases ho'
  exact⟨_,es',ep',hL,r'⟩) hok hg
theorem Inv.turned{t':Nat}{it:Addr}(I:Inv X pins σ H s)(k:∀b o,b≠it->s.heap.get? b=some o->h'.get? b=some o)(hn:H it=none)(hL:it≠X.env.locals)
  (h1:it∈X.ex\/X.s_0.heap.objs.size<=it) (h2:∀x c,X.env.cells.lookup x=some c->c≠it) (h3:∀p∈X.pn++pins,p.1≠it):Inv X pins σ H {s with heap:=h',toks:=t'}:=by
 have nit:∀b u,H b=some u->b≠it:=λb u e z=>by rw[z,hn]at e;cases e
 refine I.step (g':=s.gens) (d':=s.drawn) (ch:=[it]) (λb hb=>?_) (λb o _ _ hc e _=>k b o (λz=>hc (by simp[z])) e) (λb o _ _ hc e _=>⟨o.slots,k b o (λz=>hc (by simp[z])) e⟩) (λ_ _ _ _ n=>n)
  (λb o hc e=>⟨o,k b o (λz=>hc (by simp[z])) e⟩) (λ_ _ e=>e) (λ_ _ _ e=>e) (λb ps e=>⟨#[],by rw[e];simp⟩) (λm hm=>?_) (λb u e=>?_) I.bare
 ·have e:b=it:=by simpa using hb
  subst e
  exact⟨h1,hL,h2,h3⟩
 ·obtain⟨o,es,ep,ho,r⟩:=hm
  exact⟨o,es,ep,k _ o (Ne.symm hL) ho,r⟩
 ·refine(I.hok b u e).stay (λc v hc q=>k c v ?_ q) (λ_ q=>q) λ_ _ q=>q
  rcases hc with z | z
  ·rw[z];exact nit b u e
  ·exact nit c _ z
theorem Inv.tok(I:Inv X pins σ H s)(t:Nat):Inv X pins σ H {s with toks:=t}:=I.un (h':=s.heap) (t':=t) Un.refl I.hok
theorem Inv.kept{t':Nat}(I:Inv X pins σ H s)(k:∀b u,s.heap.get? b=some u->h'.get? b=some u):Inv X pins σ H {s with heap:=h',toks:=t'}:=I.un (Un.kept k) (I.hok.kept k)
theorem Inv.laid{a:Addr}{o:HO}{t':Nat}(I:Inv X pins σ H s)(k:∀b u,s.heap.get? b=some u->h'.get? b=some u)(hp:s.heap.objs.size<=a)(new:gq X.prog X.w (upd H a o) h' a o):
  Inv X pins σ (upd H a o) {s with heap:=h',toks:=t'}:=I.un (Un.laid k hp (I.hok.fresh hp)) (I.hok.laid k hp new)
theorem Inv.write{x e:Addr}{o:HO}{t':Nat}(I:Inv X pins σ H s)(mu:Mut (H x))(he:e=x\/H e=some (.own x))(k:∀b u,b≠e->s.heap.get? b=some u->h'.get? b=some u)(heo:∃u,h'.get? e=some u)
  (new:gq X.prog X.w (upd H x o) h' x o):Inv X pins σ (upd H x o) {s with heap:=h',toks:=t'}:=I.un (Un.write mu he k heo) (I.hok.write mu he k heo new)
theorem Inv.weak{σ':List (Option V)}(I:Inv X pins σ H s)(hl:σ'.length=σ.length)(w:∀(i:Nat) v,σ'[i]? = some (some v)->σ[i]? = some (some v)):Inv X pins σ' H s :=
 ⟨I.ok,I.os,I.bare,I.base,let ⟨m,hn,hl'⟩:=I.loc;⟨m,hn,λi x v e1 e2 e3=>hl' i x v e1 (w i v e2) e3⟩,I.cell,I.free,I.freeC,I.pin,I.hok,hl.trans I.len⟩
theorem Inv.aoc{pins':List (Addr×Obj)}(I:Inv X pins σ H s)(h:∀p∈pins',s.heap.get? p.1=some p.2/\H p.1=none/\p.1≠X.env.locals/\p.1∉X.fs/\∀v,p.2.data≠.cell v):Inv X pins' σ H s :=
 ⟨I.ok,I.os,I.bare,I.base,I.loc,I.cell,I.free,I.freeC,λp hp=>(List.mem_append.mp hp).elim (λz=>I.pin p (List.mem_append_left _ z)) (h p),I.hok,I.len⟩
theorem ahx{N:List Str}(hN:N.Nodup){i j:Nat}{x:Str}(a:N[i]? = some x)(b:N[j]? = some x):i=j:=by
 obtain⟨h1,e1⟩:=List.getElem?_eq_some_iff.mp a
 obtain⟨h2,e2⟩:=List.getElem?_eq_some_iff.mp b
 exact(List.getElem_inj hN).mp (e1.trans e2.symm)
theorem arf{M:Model}{A:Around}{E:Value->Shared->Prop}{i:Nat}{x:Str}{v:V}{u:Value}{Q:Unit->Shared->Prop}(I:Inv X pins σ H s)(hN:X.N.Nodup)(hi:X.N[i]? = some x)(hx:Loc X.env.scope x)(r:RelV v u)
  (h:∀s',Inv X pins (σ.set i (some v)) H s'->(∃a,Heap.SameBut a s.heap s'.heap/\(a=X.env.locals\/X.env.cells.lookup x=some a))->Q () s') (hf:X.fn x=true\/X.env.scope.names.lookup x=some .local:=by first | exact .inl rfl | exact .inr rfl | assumption):wpAny M A (storeName X.env x u) Q E s:=by
 obtain⟨m,hn,hl⟩:=id I.loc
 have hcls:(X.env.scope.kind == .class||(X.env.scope.kind == .module&&X.env.locals != X.env.globals))=false:=by rw[I.ok.kind];rfl
 have hiσ:i<σ.length:=by rw[I.len];exact(List.getElem?_eq_some_iff.mp hi).1
 have cne:=I.cne
 have tracked:∀{a:Addr}{h':Heap},(∃o,s.heap.get? a=some o/\H a=none)->Heap.SameBut a s.heap h'->HOk X.prog X.w H h':=λ{a h'} ha hs b ob e=>by
  obtain⟨_,_,hfree⟩:=ha
  refine(I.hok b ob e).stay (λc w' hc q=>(hs.2 c ?_).trans q) (λ_ q=>q) λ_ _ q=>q
  rintro rfl
  rcases hc with rfl | hc
  ·rw[hfree]at e;cases e
  ·rw[hfree]at hc;cases hc
 rcases hx with hk | hk
 ·refine wpAny_storeName_local hk hn (λh' hn' hs=>?_) hcls
  obtain⟨oL,_,_,hoL,_⟩:=id hn
  refine h _ ⟨I.ok,I.os,I.bare,⟨λb o e n hb hx=>?_,λb o e n hb hx=>?_,I.base.free,λb o e hx=>?_,I.base.tups,I.base.frzs,I.base.tbls⟩,⟨_,hn',λj y v' e1 e2 e3=>?_⟩,λy c e=>?_,I.free,I.freeC,λp hp=>?_,tracked ⟨oL,hoL,I.free⟩ hs,by simpa using I.len⟩ ⟨_,hs,.inl rfl⟩
  ·exact(hs.2 b (Nat.ne_of_lt (Nat.lt_of_lt_of_le (Heap.lt_size e) I.ok.above))).trans (I.base.keep b o e n hb hx)
  ·obtain⟨sl,e1⟩:=I.base.slot b o e n hb hx
   exact⟨sl,(hs.2 b (Nat.ne_of_lt (Nat.lt_of_lt_of_le (Heap.lt_size e) I.ok.above))).trans e1⟩
  ·obtain⟨o',e1⟩:=I.base.there b o e hx
   exact⟨o',(hs.2 b (Nat.ne_of_lt (Nat.lt_of_lt_of_le (Heap.lt_size e) I.ok.above))).trans e1⟩
  ·by_cases hj:j=i
   ·subst hj
    rw[hi]at e1;cases e1
    rw[List.getElem?_set_self hiσ]at e2
    cases e2
    exact⟨u,r,.inl ⟨hk,by simp⟩⟩
   ·rw[List.getElem?_set_ne (Ne.symm hj)]at e2
    obtain⟨u',r',q⟩:=hl j y v' e1 e2 e3
    refine⟨u',r',?_⟩
    rcases q with ⟨k,e⟩ | ⟨k,c,e,z⟩
    ·refine .inl ⟨k,?_⟩
     have:y≠x:=λe=>hj (ahx hN e1 (e▸hi))
     simp[this,e]
    ·exact .inr ⟨k,c,e,z.sameBut hs (cne y c e)⟩
  ·obtain⟨w',z⟩:=I.cell y c e
   exact⟨w',z.sameBut hs (cne y c e)⟩
  ·obtain⟨e,n,ne,nf,d⟩:=I.pin p hp
   exact⟨(hs.2 p.1 ne).trans e,n,ne,nf,d⟩
 ·have hfn:X.fn x=true:=by
   rcases hf with z | z
   ·exact z
   ·rw[z]at hk;cases hk
  obtain⟨c,hc⟩:=I.ok.has x (.inl hk)
  obtain⟨w',z⟩:=I.cell x c hc
  refine wpAny_storeName_cell I.ok.kind hk hc z (λh' hc' hs=>?_)
  obtain⟨oc,hoc,hocd⟩:=id z
  refine h {s with heap:=h'} ⟨I.ok,I.os,I.bare,⟨λb o e n hb hx=>?_,λb o e n hb hx=>?_,I.base.free,λb o e hx=>?_,I.base.tups,I.base.frzs,I.base.tbls⟩,⟨m,hn.sameBut hs (Ne.symm (cne x c hc)),λj y v' e1 e2 e3=>?_⟩,λy c' e=>?_,I.free,I.freeC,λp hp=>?_,tracked ⟨oc,hoc,I.freeC x c hc⟩ hs,by simpa using I.len⟩ ⟨c,hs,.inr hc⟩
  ·exact(hs.2 b (Nat.ne_of_lt (Nat.lt_of_lt_of_le (Heap.lt_size e) (I.ok.cab x c hfn hc)))).trans (I.base.keep b o e n hb hx)
  ·obtain⟨sl,e1⟩:=I.base.slot b o e n hb hx
   exact⟨sl,(hs.2 b (Nat.ne_of_lt (Nat.lt_of_lt_of_le (Heap.lt_size e) (I.ok.cab x c hfn hc)))).trans e1⟩
  ·obtain⟨o',e1⟩:=I.base.there b o e hx
   exact⟨o',(hs.2 b (Nat.ne_of_lt (Nat.lt_of_lt_of_le (Heap.lt_size e) (I.ok.cab x c hfn hc)))).trans e1⟩
  ·by_cases hj:j=i
   ·subst hj
    rw[hi]at e1;cases e1
    rw[List.getElem?_set_self hiσ]at e2
    cases e2
    exact⟨u,r,.inr ⟨.inl hk,c,hc,hc'⟩⟩
   ·rw[List.getElem?_set_ne (Ne.symm hj)]at e2
    obtain⟨u',r',q⟩:=hl j y v' e1 e2 e3
    refine⟨u',r',?_⟩
    rcases q with q | ⟨k,c',e,z'⟩
    ·exact .inl q
    ·refine .inr ⟨k,c',e,z'.sameBut hs ?_⟩
     rintro rfl
     exact hj (ahx hN e1 (I.ok.inj _ _ _ e hc▸hi))
  ·by_cases hcc:c'=c
   ·subst hcc;exact⟨_,hc'⟩
   ·obtain⟨w2,z2⟩:=I.cell y c' e
    exact⟨w2,z2.sameBut hs hcc⟩
  ·obtain⟨e,n,ne,nf,d⟩:=I.pin p hp
   refine⟨(hs.2 p.1 ?_).trans e,n,ne,nf,d⟩
   intro q
   rw[q,hoc]at e
   have q':oc=p.2:=Option.some.inj e
   exact d w' (by rw[<-q'];exact hocd)
theorem af8{M:Model}{A:Around}{E:Value->Shared->Prop}{i:Nat}{x:Str}{v:V}{u:Value}{Q:Unit->Shared->Prop}(I:Inv X pins σ H s)(hN:X.N.Nodup)(hi:X.N[i]? = some x)(hx:Loc X.env.scope x)(r:RelV v u)
  (h:∀s',Inv X pins (σ.set i (some v)) H s'->Q () s') (hf:X.fn x=true\/X.env.scope.names.lookup x=some .local:=by first | exact .inl rfl | exact .inr rfl | assumption):wpAny M A (storeName X.env x u) Q E s :=
 arf I hN hi hx r (λs' I' _=>h s' I') hf
theorem Inv.call'{s':Shared}{ch:List Addr}(I:Inv X pins σ H s)(ho:s'.os=s.os)(u:Un (frs X.stack) ch H H' s.heap s'.heap)(hok:HOk X.prog X.w H' s'.heap)(hg:AllBare s'.gens)
  (hch:∀b∈ch,(b∈X.ex\/X.s_0.heap.objs.size<=b)/\b≠X.env.locals/\(∀x c,X.env.cells.lookup x=some c->c≠b)/\∀p∈X.pn++pins,p.1≠b):Inv X pins σ H' s':=by
 obtain⟨h',g',d',t',o'⟩:=s'
 have e:o'=s.os:=ho
 subst e
 exact I.call (g':=g') (t':=t') (d':=d') u hok hg hch
end
abbrev XK:=Value->Option Addr->Hp->Prop
abbrev St:=List (Option V)
abbrev VK:=V->Hp->Prop
abbrev TE:=St->Hp->VK->Prop
abbrev TT:=St->Hp->(Bool->Hp->Prop)->Prop
abbrev TA:=St->Hp->(List V->Hp->Prop)->Prop
structure Ends where
 nx:St->Hp->Prop
 rt:VK
 bk:St->Hp->Prop:=λ_ _=>False
 ct:St->Hp->Prop:=λ_ _=>False
abbrev TS:=Ends->St->Hp->Prop
def EP(X:Cx)(pins:List (Addr×Obj))(σ:St)(Q:VK)(u:Value)(s':Shared):Prop:=∃v H',Inv X pins σ H' s'/\RelV v u/\Q v H'
def TP(X:Cx)(pins:List (Addr×Obj))(σ:St)(Q:Bool->Hp->Prop)(b:Bool)(s':Shared):Prop:=∃H',Inv X pins σ H' s'/\Q b H'
def AP(X:Cx)(pins:List (Addr×Obj))(σ:St)(Q:List V->Hp->Prop)(us:List Value)(s':Shared):Prop:=∃vs H',Inv X pins σ H' s'/\Vals vs us/\Q vs H'
def SP(X:Cx)(pins:List (Addr×Obj))(D:Ends)(f:Flow)(s':Shared):Prop :=
 match f with
 | .next=>∃σ' H',Inv X pins σ' H' s'/\D.nx σ' H'
 | .brk=>∃σ' H',Inv X pins σ' H' s'/\D.bk σ' H'
 | .cont=>∃σ' H',Inv X pins σ' H' s'/\D.ct σ' H'
 | .ret u=>∃v σ' H',Inv X pins σ' H' s'/\RelV v u/\D.rt v H'
def PE(X:Cx)(e:Expr)(t:TE):Prop :=
 ∀(pins:List (Addr×Obj)) (s:Shared) (σ:St) (H:Hp) (Q:VK),Inv X pins σ H s->t σ H Q->wpAny (model X.prog X.w) X.A (eval e X.env) (EP X pins σ Q) X.xe s
def PT(X:Cx)(e:Expr)(t:TT):Prop :=
 ∀(pins:List (Addr×Obj)) (s:Shared) (σ:St) (H:Hp) (Q:Bool->Hp->Prop),Inv X pins σ H s->t σ H Q->wpAny (model X.prog X.w) X.A (isTrue e X.env (eval e X.env)) (TP X pins σ Q) X.xe s
def PW(X:Cx)(e:Expr)(t:TT):Prop :=
 ∀(whole:Sem Value) (pins:List (Addr×Obj)) (s:Shared) (σ:St) (H:Hp) (Q:Bool->Hp->Prop),Inv X pins σ H s->t σ H Q->wpAny (model X.prog X.w) X.A (isTrue e X.env whole) (TP X pins σ Q) X.xe s
theorem PW.pt{X:Cx}{e:Expr}{t:TT}(h:PW X e t):PT X e t:=h _
def PA(X:Cx)(es:List Expr)(t:TA):Prop :=
 ∀(pos:Pos) (pins:List (Addr×Obj)) (s:Shared) (σ:St) (H:Hp) (Q:List V->Hp->Prop),Inv X pins σ H s->t σ H Q->wpAny (model X.prog X.w) X.A (spliced (backTo pos (starEach es X.env))) (AP X pins σ Q) X.xe s
def PS(X:Cx)(st:Stmt)(t:TS):Prop :=
 ∀(pins:List (Addr×Obj)) (s:Shared) (σ:St) (H:Hp) (D:Ends),Inv X pins σ H s->t D σ H->wpAny (model X.prog X.w) X.A (exec st X.env) (SP X pins D) X.xe s
def PSs(X:Cx)(st:List Stmt)(t:TS):Prop :=
 ∀(pins:List (Addr×Obj)) (s:Shared) (σ:St) (H:Hp) (D:Ends),Inv X pins σ H s->t D σ H->wpAny (model X.prog X.w) X.A (execs st X.env) (SP X pins D) X.xe s
theorem thn{α:Type}{t:Sem α}{Q Q':α->Shared->Prop}{M:Model}{A:Around}{E:Value->Shared->Prop}{s:Shared}(h:wpAny M A t Q E s)(hQ:∀a s,Q a s->Q' a s):wpAny M A t Q' E s:=wpAny_mono h hQ λ_ _ x=>x
section
variable{X:Cx}
theorem bin{a b:Expr}{ta tb:TE}(ha:PE X a ta)(hb:PE X b tb){pins:List (Addr×Obj)}{s:Shared}{σ:St}{H:Hp}{R:V->V->Hp->Prop}(I:Inv X pins σ H s)(h:ta σ H λx H1=>tb σ H1 λy H2=>R x y H2)
  {α:Type}{Q:α->Shared->Prop}{f:Value->Value->Sem α}
  (hf:∀v u s2 x y H2,Inv X pins σ H2 s2->RelV x v->RelV y u->R x y H2->wpAny (model X.prog X.w) X.A (f v u) Q X.xe s2) :
  wpAny (model X.prog X.w) X.A (eval a X.env) (λv s₁=>wpAny (model X.prog X.w) X.A (eval b X.env) (λu s₂=>wpAny (model X.prog X.w) X.A (f v u) Q X.xe s₂) X.xe s₁) X.xe s:=by
 refine thn (ha pins s σ H _ I h) λv s1 ⟨x,H1,I1,r1,q1⟩=>?_
 refine thn (hb pins s1 σ H1 _ I1 q1) λu s2 ⟨y,H2,I2,r2,q2⟩=>?_
 exact hf v u s2 x y H2 I2 r1 r2 q2
def jc(i:Nat):TE:=λσ H Q=>∃v,σ[i]? = some (some v)/\Q v H
def tC(v:V):TE:=λ_ H Q=>Q v H
theorem az5{i:Nat}{x:Str}{pos:Pos}(hN:X.N[i]? = some x)(hv:Vis X.env.scope x)(hd:(x==("__debug__" : Str))=false:=by decide)(hcd:(x==("__classdict__" : Str))=false:=by decide):PE X (.Name x pos) (jc i):=by
 intro pins s σ H Q I h
 obtain⟨v,e,h⟩:=h
 obtain⟨m,hn,hl⟩:=I.loc
 obtain⟨u,r,l⟩:=hl i x v hN e hv
 have fin:EP X pins σ Q u s:=⟨v,H,I,r,h⟩
 rcases l with ⟨hk,hm⟩ | ⟨hk,c,hc,hcell⟩
 ·exact wpAny_Name (wpAny_loadName_local I.ok.kind hk hn hm fin) hd
 ·rcases hk with hk | hk
  ·exact wpAny_Name (wpAny_loadName_cell I.ok.kind hk hc hcell fin) hd
  ·exact wpAny_Name (wpAny_loadName_free I.ok.kind hk hc hcell fin hcd) hd
theorem dm{i j pos}:PE X (.Constant (.int i) j pos) (tC (.int i)):=λ_ _ _ H _ I h=>wpAny_Constant_int ⟨.int i,H,I.tok _,⟨_,rfl⟩,h⟩
theorem ach{b j pos}:PE X (.Constant (.bool b) j pos) (tC (.bl b)):=λ_ _ _ H _ I h=>Constant_bool ⟨.bl b,H,I,rfl,h⟩
theorem an6{j pos}:PE X (.Constant .none j pos) (tC .non):=λ_ _ _ H _ I h=>Constant_none ⟨.non,H,I,rfl,h⟩
theorem gj{x j pos}:PE X (.Constant (.str x) j pos) (tC (.str x)):=λ_ _ _ H _ I h=>Calls.Constant_str ⟨.str x,H,I.tok _,⟨_,rfl⟩,h⟩
def Gl(X:Cx)(x:Str):Prop:=X.env.kindOf x=some .globalImplicit
theorem vy{E:Value->Shared->Prop}{pins:List (Addr×Obj)}{s:Shared}{σ:St}{H:Hp}{x:Str}{u:Value}{pos:Pos}{Q:Value->Shared->Prop}(I:Inv X pins σ H s)(hg:Gl X x)(hm:X.mg x=some u)(h:Q u s)
  (hd:(x==("__debug__" : Str))=false:=by decide):wpAny (model X.prog X.w) X.A (eval (.Name x pos) X.env) Q E s :=
 Calls.Name_function_global I.ok.kind hg (Calls.loadGlobal_global (by rw[I.ok.glob];exact I.mod.glob.keeps I.bk) hm h) hd
theorem ab8{E:Value->Shared->Prop}{pins:List (Addr×Obj)}{s:Shared}{σ:St}{H:Hp}{x:Str}{u:Value}{pos:Pos}{Q:Value->Shared->Prop}(I:Inv X pins σ H s)(hg:Gl X x)(hm:X.mg x=none)(hv:bootBuiltins x=some u)(h:Q u s)
  (hn:x ≠ "__name__" := by decide) (hd:(x==("__debug__" : Str))=false:=by decide):wpAny (model X.prog X.w) X.A (eval (.Name x pos) X.env) Q E s:=by
 obtain⟨mb,h1,h2⟩:=I.mod.blt
 exact Calls.Name_function_global I.ok.kind hg (Calls.loadGlobal_builtin (by rw[I.ok.glob];exact I.mod.glob.keeps I.bk) hm (by rw[I.ok.blt];exact h1.keeps I.bk) ((h2 x hn).trans hv) h) hd
theorem di{x:Str}{v:V}{u:Value}{pos:Pos}(hg:Gl X x)(hm:X.mg x=some u)(r:RelV v u)(hd:(x==("__debug__" : Str))=false:=by decide):PE X (.Name x pos) (tC v) :=
 λ_ _ _ H _ I h=>vy I hg hm ⟨v,H,I,r,h⟩ hd
variable{a b:Expr}{ta tb:TE}{pos:Pos}
def PC(X:Cx)(op:CmpOp)(a b:Expr)(t:TE):Prop :=
 ∀(pins:List (Addr×Obj)) (s:Shared) (σ:St) (H:Hp) (Q:VK),Inv X pins σ H s->t σ H Q ->
  wpAny (model X.prog X.w) X.A (eval a X.env) (λv s₁=>wpAny (model X.prog X.w) X.A (eval b X.env) (λu s₂=>wpAny (model X.prog X.w) X.A (compareOp op v u) (EP X pins σ Q) X.xe s₂) X.xe s₁) X.xe s
def tB(t:TE):TT:=λσ H Q=>t σ H λx H1=>∃c,x=.bl c/\Q c H1
theorem a5i{op:CmpOp}{t:TE}(h:PC X op a b t)(h1:behindInMarks op b=false:=by first | exact nobehind _ (by decide) (by decide) | rfl):PT X (.Compare a [op] [b] pos) (tB t):=by
 intro pins s σ H Q I hw
 refine wpAny_isTrue_Compare1 (thn (h pins s σ H _ I hw) λv s1 h1=>thn h1 λu s2 h2=>thn h2 λc s3 ⟨x,H1,I1,r1,q1⟩=>?_) h1
 obtain⟨d,rfl,q⟩:=q1
 cases r1
 exact wpAny_truthy_bool ⟨H1,I1,q⟩
theorem uc{e:Expr}{t:TE}(h:PE X e t)(he:∀whole,isTrue e X.env whole=(do let v <-whole;standAt e.pos;holding [v] (truthy v)):=by intro _;rfl):PT X e (tB t):=by
 intro pins s σ H Q I hw
 refine isTrue_plain (thn (h pins s σ H _ I hw) λv s1 ⟨x,H1,I1,r1,q1⟩=>?_) (he _)
 obtain⟨d,rfl,q⟩:=q1
 cases r1
 exact wpAny_truthy_bool ⟨H1,I1,q⟩
variable{tA tB':TT}{rest:List Expr}
def a3k(t u:TT):TT:=λσ H Q=>t σ H λc H1=>if c=true then u σ H1 Q else Q false H1
def tOr(t u:TT):TT:=λσ H Q=>t σ H λc H1=>if c=true then Q true H1 else u σ H1 Q
def arn(t:TT):TT:=λσ H Q=>t σ H λc H1=>Q (!c) H1
theorem afm(ha:PT X a tA):PW X (.BoolOp .And [a] pos) tA:=by
 intro wh pins s σ H Q I h
 refine isTrue_and (thn (ha pins s σ H Q I h) λc s1 e=>?_)
 cases c with
 | true=>exact isTrue_and_nil e
 | false=>exact e
theorem ack(ha:PT X a tA):PW X (.BoolOp .Or [a] pos) tA:=by
 intro wh pins s σ H Q I h
 refine isTrue_or (thn (ha pins s σ H Q I h) λc s1 e=>?_)
 cases c with
 | false=>exact isTrue_or_nil e
 | true=>exact e
theorem afl(ha:PT X a tA)(hb:PW X (.BoolOp .And (b::rest) pos) tB'):PW X (.BoolOp .And (a::b::rest) pos) (a3k tA tB'):=by
 intro wh pins s σ H Q I h
 refine isTrue_and (thn (ha pins s σ H _ I h) λc s1 ⟨H1,I1,q1⟩=>?_)
 cases c with
 | true=>exact hb wh pins s1 σ H1 Q I1 q1
 | false=>exact⟨H1,I1,q1⟩
theorem yu(ha:PT X a tA)(hb:PW X (.BoolOp .Or (b::rest) pos) tB'):PW X (.BoolOp .Or (a::b::rest) pos) (tOr tA tB'):=by
 intro wh pins s σ H Q I h
 refine isTrue_or (thn (ha pins s σ H _ I h) λc s1 ⟨H1,I1,q1⟩=>?_)
 cases c with
 | true=>exact⟨H1,I1,q1⟩
 | false=>exact hb wh pins s1 σ H1 Q I1 q1
theorem u9(ha:PT X a tA):PT X (.UnaryOp .Not a pos) (arn tA):=by
 intro pins s σ H Q I h
 exact isTrue_not (ha pins s σ H (λc H1=>Q (!c) H1) I h)
def a3l(ta tb:TE):TE:=λσ H Q=>ta σ H λx H1=>∃c,x=.bl c/\if c=true then tb σ H1 Q else Q (.bl false) H1
def a3u(ta tb:TE):TE:=λσ H Q=>ta σ H λx H1=>∃c,x=.bl c/\if c=true then Q (.bl true) H1 else tb σ H1 Q
theorem afc{op}{t:TE}(h:PE X a t):PE X (.BoolOp op [a] pos) t:=λpins s σ H Q I hw=>BoolOp_one (h pins s σ H Q I hw)
theorem azs(ha:PE X a ta)(hb:PE X (.BoolOp .And (b::rest) pos) tb):PE X (.BoolOp .And (a::b::rest) pos) (a3l ta tb):=by
 intro pins s σ H Q I h
 refine BoolOp_and (thn (ha pins s σ H _ I h) λv s1 ⟨x,H1,I1,r1,q1⟩=>?_)
 obtain⟨c,rfl,q1⟩:=q1
 cases r1
 refine wpAny_truthy_bool ?_
 cases c with
 | true=>exact hb pins s1 σ H1 Q I1 q1
 | false=>exact⟨.bl false,H1,I1,rfl,q1⟩
theorem adt(ha:PE X a ta)(hb:PE X (.BoolOp .Or (b::rest) pos) tb):PE X (.BoolOp .Or (a::b::rest) pos) (a3u ta tb):=by
 intro pins s σ H Q I h
 refine BoolOp_or (thn (ha pins s σ H _ I h) λv s1 ⟨x,H1,I1,r1,q1⟩=>?_)
 obtain⟨c,rfl,q1⟩:=q1
 cases r1
 refine wpAny_truthy_bool ?_
 cases c with
 | false=>exact hb pins s1 σ H1 Q I1 q1
 | true=>exact⟨.bl true,H1,I1,rfl,q1⟩
def tIf(t:TT)(ta tb:TE):TE:=λσ H Q=>t σ H λc H1=>if c=true then ta σ H1 Q else tb σ H1 Q
theorem adq{c:Expr}(hc:PT X c tA)(ha:PE X a ta)(hb:PE X b tb):PE X (.IfExp c a b pos) (tIf tA ta tb):=by
 intro pins s σ H Q I h
 refine wpAny_IfExp (thn (hc pins s σ H _ I h) λd s1 ⟨H1,I1,q1⟩=>?_)
 cases d with
 | true=>exact ha pins s1 σ H1 Q I1 q1
 | false=>exact hb pins s1 σ H1 Q I1 q1
end
def SqL(K:PySem.W.Frag)(H:Hp)(a:Addr)(xs:List V):Prop :=
 Rd H a (.lst xs) \/
  ∃(o:Obj) (its:Array Value) (n:Nat),K.lookup a=some o/\o.cls=.type "list" /\ o.dict=none/\o.data=.seq its n/\its.size<=sizeLine/\Vals xs its.toList
def SqT(K:PySem.W.Frag)(H:Hp)(a:Addr)(xs:List V):Prop :=
 Rd H a (.tup xs) \/
  ∃(o:Obj) (its:Array Value) (n:Nat),K.lookup a=some o/\o.cls=.type "tuple" /\ o.data=.seq its n/\its.size<=sizeLine/\Vals xs its.toList
def as4:Value->Option V
 | .none=>some .non
 | .bool b=>some (.bl b)
 | .int i _=>some (.int i)
 | .str x _=>some (.str x)
 | .bytes b _=>some (.byt b)
 | .float b _=>some (.flt b)
 | .ref a=>some (.ref a)
 | .type n=>some (.ty n)
 | _=>none
theorem RelV.abs{x:V}{u:Value}(r:RelV x u):as4 u=some x:=by
 cases x with
 | non=>cases r;rfl
 | bl _=>cases r;rfl
 | int _=>obtain⟨t,rfl⟩:=r;rfl
 | str _=>obtain⟨t,rfl⟩:=r;rfl
 | byt _=>obtain⟨t,rfl⟩:=r;rfl
 | flt _=>obtain⟨t,rfl⟩:=r;rfl
 | ref _=>cases r;rfl
 | ty _=>cases r;rfl
theorem RelV.inj{x y:V}{u:Value}(r:RelV x u)(q:RelV y u):x=y:=Option.some.inj (r.abs.symm.trans q.abs)
theorem Vals.inj:∀{xs ys:List V}{us:List Value},Vals xs us->Vals ys us->xs=ys
 | _,_,_,.nil,.nil=>rfl
 | _,_,_,.cons r t,.cons r' t'=>by rw[r.inj r',Vals.inj t t']
section
variable{X:Cx}{pins:List (Addr×Obj)}{σ:St}{H:Hp}{s:Shared}{a:Addr}{xs ys:List V}
theorem SqL.of{K:PySem.W.Frag}(h:H a=some (.lst xs)):SqL K H a xs:=.inl (.inl h)
theorem SqT.of{K:PySem.W.Frag}(h:H a=some (.tup xs)):SqT K H a xs:=.inl (.inl h)
theorem Inv.list(I:Inv X pins σ H s)(h:SqL X.K H a xs):∃its:List Value,Vals xs its/\PlainL s.heap a its.toArray/\xs.length<=sizeLine:=by
 rcases h with h | ⟨o,its,n,hk,hc,hd,hs,hz,r⟩
 ·obtain⟨z,its,n,r,e⟩:=h.ok I.hok
  exact⟨its,r,⟨_,n,e,rfl,rfl,rfl⟩,z⟩
 ·refine⟨its.toList,r,⟨o,n,I.kIn a o hk,hc,hd,by simpa using hs⟩,?_⟩
  have e:=r.length
  simp only[Array.length_toList]at e
  omega
theorem Inv.tuple(I:Inv X pins σ H s)(h:SqT X.K H a xs):∃its:List Value,Vals xs its/\IsTup s.heap a its.toArray/\xs.length<=sizeLine:=by
 rcases h with h | ⟨o,its,n,hk,hc,hs,hz,r⟩
 ·obtain⟨z,its,r,p⟩:=h.ok I.hok
  exact⟨its,r,p,z⟩
 ·refine⟨its.toList,r,⟨o,I.kIn a o hk,hc,n,by simpa using hs⟩,?_⟩
  have e:=r.length
  simp only[Array.length_toList]at e
  omega
theorem Inv.ae3(I:Inv X pins σ H s)(h:SqL X.K H a xs)(h':SqL X.K H a ys):xs=ys:=by
 obtain⟨its,r,⟨o,n,e,_,_,d⟩,_⟩:=I.list h
 obtain⟨its',r',⟨o',n',e',_,_,d'⟩,_⟩:=I.list h'
 rw[e]at e';cases e'
 rw[d]at d'
 injection d' with d1 _
 have:its=its':=by simpa using congrArg Array.toList d1
 subst this
 exact r.inj r'
theorem Inv.a4d(I:Inv X pins σ H s)(h:SqT X.K H a xs)(h':SqT X.K H a ys):xs=ys:=by
 obtain⟨its,r,⟨o,e,_,n,d⟩,_⟩:=I.tuple h
 obtain⟨its',r',⟨o',e',_,n',d'⟩,_⟩:=I.tuple h'
 rw[e]at e';cases e'
 rw[d]at d'
 injection d' with d1 _
 have:its=its':=by simpa using congrArg Array.toList d1
 subst this
 exact r.inj r'
end
abbrev Cx.wish(X:Cx)(E:Value->Shared->Prop):Cx:={X with xe:=E}
abbrev Cx.nox(X:Cx):Cx:=X.wish λ_ _=>False
theorem Cx.Ok.wish{X:Cx}(ok:X.Ok)(E:Value->Shared->Prop):(X.wish E).Ok :=
 ⟨ok.mod,ok.kind,ok.glob,ok.blt,ok.above,ok.inj,ok.has,ok.cab,ok.hd,ok.frames,ok.stk,ok.exf,ok.bs,ok.bsz,ok.noex,ok.exfs,ok.lr,ok.frf⟩
theorem Cx.Ok.aa3{X:Cx}{E:Value->Shared->Prop}(ok:(X.wish E).Ok):X.Ok :=
 ⟨ok.mod,ok.kind,ok.glob,ok.blt,ok.above,ok.inj,ok.has,ok.cab,ok.hd,ok.frames,ok.stk,ok.exf,ok.bs,ok.bsz,ok.noex,ok.exfs,ok.lr,ok.frf⟩
section
variable{X:Cx}{pins:List (Addr×Obj)}{σ:St}{H:Hp}{s:Shared}{E:Value->Shared->Prop}
theorem Inv.wish(I:Inv X pins σ H s)(E:Value->Shared->Prop):Inv (X.wish E) pins σ H s:=⟨I.ok.wish E,I.os,I.bare,I.base,I.loc,I.cell,I.free,I.freeC,I.pin,I.hok,I.len⟩
theorem Inv.aa3(I:Inv (X.wish E) pins σ H s):Inv X pins σ H s:=⟨I.ok.aa3,I.os,I.bare,I.base,I.loc,I.cell,I.free,I.freeC,I.pin,I.hok,I.len⟩
theorem SP.aa3{D:Ends}{f:Flow}{s':Shared}(h:SP (X.wish E) pins D f s'):SP X pins D f s':=by
 cases f with
 | next=>obtain⟨σ',H',I,q⟩:=h;exact⟨σ',H',I.aa3,q⟩
 | brk=>obtain⟨σ',H',I,q⟩:=h;exact⟨σ',H',I.aa3,q⟩
 | cont=>obtain⟨σ',H',I,q⟩:=h;exact⟨σ',H',I.aa3,q⟩
 | ret u=>obtain⟨v,σ',H',I,r,q⟩:=h;exact⟨v,σ',H',I.aa3,r,q⟩
theorem PSs.nox{st:List Stmt}{t:TS}(h:PSs X.nox st t):PSs X st t:=λpins s σ H D I hw =>
 wpAny_mono (h pins s σ H D (I.wish _) hw) (λ_ _ q=>q.aa3) λ_ _ z=>False.elim z
end
section
variable{X:Cx}{st:Stmt}{rest:List Stmt}{t u:TS}{e:Expr}{te:TE}{pos:Pos}
def agb:TS:=λD σ H=>D.nx σ H
def aeb(t u:TS):TS:=λD σ H=>t {D with nx:=u D} σ H
theorem jq:PSs X [] agb:=λ_ _ σ H _ I h=>wpAny_execs_nil ⟨σ,H,I,h⟩
theorem au(h1:PS X st t)(h2:PSs X rest u):PSs X (st::rest) (aeb t u):=by
 intro pins s σ H D I h
 refine wpAny_execs_cons (thn (h1 pins s σ H {D with nx:=u D} I h) λf s1 q=>?_)
 cases f with
 | next =>
  obtain⟨σ',H',I',q⟩:=q
  exact h2 pins s1 σ' H' D I' q
 | ret v=>exact q
 | brk=>exact q
 | cont=>exact q
theorem bh(h1:PS X st t):PSs X [st] t:=by
 intro pins s σ H D I h
 refine wpAny_execs_cons (thn (h1 pins s σ H D I h) λf s1 q=>?_)
 cases f with
 | next=>exact wpAny_execs_nil q
 | ret v=>exact q
 | brk=>exact q
 | cont=>exact q
def a3n:TS:=λD σ H=>D.bk σ H
theorem aoh:PS X (.Break pos) a3n:=λ_ _ σ H _ I h=>wpAny_Break ⟨σ,H,I,h⟩
theorem Inv.quiet{pins:List (Addr×Obj)}{σ:St}{H:Hp}{s:Shared}(I:Inv X pins σ H s):interactive X.env=false:=by simp[interactive,I.ok.kind]
def arj(te:TE):TS:=λD σ H=>te σ H λ_ H1=>D.nx σ H1
theorem ig(he:PE X e te)(hs:swapsWith e none pos.line X.env=pure false:=by rfl):PS X (.Expr e pos) (arj te):=by
 intro pins s σ H D I h
 exact wpAny_Expr_any (thn (he pins s σ H _ I h) λv s1 ⟨x,H1,I1,r1,q1⟩=>⟨σ,H1,I1,q1⟩) I.quiet hs
def aea(te:TE):TS:=λD σ H=>te σ H D.rt
theorem dj(he:PE X e te):PS X (.Return (some e) pos) (aea te):=by
 intro pins s σ H D I h
 exact wpAny_Return_some (thn (he pins s σ H _ I h) λv s1 ⟨x,H1,I1,r1,q1⟩=>⟨x,σ,H1,I1,r1,q1⟩)
def af9(c:TT)(t u:TS):TS:=λD σ H=>c σ H λb H1=>if b=true then t D σ H1 else u D σ H1
theorem jl{c:Expr}{a b:List Stmt}{tc:TT}(hc:PT X c tc)(ha:PSs X a t)(hb:PSs X b u):PS X (.If c a b pos) (af9 tc t u):=by
 intro pins s σ H D I h
 refine wpAny_If (thn (hc pins s σ H _ I h) λd s1 ⟨H1,I1,q1⟩=>?_)
 cases d with
 | true=>exact ha pins s1 σ H1 D I1 q1
 | false=>exact hb pins s1 σ H1 D I1 q1
def a3s:TS:=λ_ _ _=>False
theorem a0n{sts:List Stmt}:PSs X sts a3s:=λ_ _ _ _ _ _ h=>h.elim
end
abbrev TG:=V->St->Hp->(St->Hp->Prop)->Prop
abbrev TGs:=List V->St->Hp->(St->Hp->Prop)->Prop
def PG(X:Cx)(target:Expr)(t:TG):Prop :=
 ∀(pins:List (Addr×Obj)) (s:Shared) (σ:St) (H:Hp) (v:V) (u:Value) (Q:St->Hp->Prop),Inv X pins σ H s->RelV v u->t v σ H Q ->
  wpAny (model X.prog X.w) X.A (assign target X.env u) (λ_ s'=>∃σ' H',Inv X pins σ' H' s'/\Q σ' H') X.xe s
def PGs(X:Cx)(ts:List Expr)(t:TGs):Prop :=
 ∀(pins:List (Addr×Obj)) (s:Shared) (σ:St) (H:Hp) (vs:List V) (us:List Value) (Q:St->Hp->Prop),Inv X pins σ H s->Vals vs us->t vs σ H Q ->
  wpAny (model X.prog X.w) X.A (assignInOrder ((assignEach ts X.env).map (·.2)) us) (λ_ s'=>∃σ' H',Inv X pins σ' H' s'/\Q σ' H') X.xe s
abbrev TIp:=V->V->Hp->VK->Prop
def PIp(X:Cx)(op:Operator)(t:TIp):Prop :=
 ∀(pins:List (Addr×Obj)) (s:Shared) (σ:St) (H:Hp) (x y:V) (v u:Value) (Q:VK),Inv X pins σ H s->RelV x v->RelV y u->t x y H Q ->
  wpAny (model X.prog X.w) X.A (inplaceOp op v u) (EP X pins σ Q) X.xe s
section
variable{X:Cx}{pos:Pos}
def ade(i:Nat):TG:=λv σ H Q=>Q (σ.set i (some v)) H
theorem gm{i:Nat}{x:Str}(hN:X.N.Nodup)(hi:X.N[i]? = some x)(hx:Loc X.env.scope x)(hf:X.fn x=true\/X.env.scope.names.lookup x=some .local:=by first | exact .inl rfl | exact .inr rfl | assumption):PG X (.Name x pos) (ade i):=by
 intro pins s σ H v u Q I r h
 exact wpAny_assign_Name (af8 I hN hi hx r (λs' I'=>⟨_,H,I',h⟩) hf)
def auy:TGs:=λvs σ H Q=>vs=[]/\Q σ H
def auw(t:TG)(u:TGs):TGs:=λvs σ H Q=>∃v r,vs=v::r/\t v σ H λσ' H'=>u r σ' H' Q
theorem xu:PGs X [] auy:=by
 intro pins s σ H vs us Q I r h
 obtain⟨e,h⟩:=h
 subst e
 cases r
 exact assignInOrder_nil ⟨σ,H,I,h⟩
theorem jk{e:Expr}{es:List Expr}{t:TG}{u:TGs}(h1:PG X e t)(h2:PGs X es u)
  (hs:(assignEach (e::es) X.env).map (·.2)=assign e X.env::(assignEach es X.env).map (·.2):=by rfl):PGs X (e::es) (auw t u):=by
 intro pins s σ H vs us Q I r h
 obtain⟨v,vr,e1,h⟩:=h
 subst e1
 cases r with
 | cons r rr =>
  rw[hs]
  refine assignInOrder_cons (thn (h1 pins s σ H _ _ _ I r h) λ_ s1 ⟨σ1,H1,I1,q1⟩=>?_)
  exact h2 pins s1 σ1 H1 _ _ Q I1 rr q1
def amh(K:PySem.W.Frag)(n:Nat)(t:TGs):TG:=λv σ H Q=>∃a xs,v=.ref a/\SqT K H a xs/\xs.length=n/\t xs σ H Q
theorem abi{es:List Expr}{k:Nat}{t:TGs}{n:Nat}(hc:X.calm=true)(h:PGs X es t)
  (hn:(assignEach es X.env).length=n:=by rfl) (hst:(assignEach es X.env).findIdx? (·.1)=none:=by rfl):PG X (.Tuple es k pos) (amh X.K n t):=by
 intro pins s σ H v u Q I r hw
 obtain⟨a,xs,e1,hq,hl,hw⟩:=hw
 subst e1
 cases r
 obtain⟨its,rv,ht,hz⟩:=I.tuple hq
 refine assign_Tuple_tuple (I.ok.hd hc) ht (by simp[hn,<-hl,rv.length]) hst λh' hx=>?_
 have I1:Inv X pins σ H {s with heap:=h'}:=I.kept (t':=s.toks) λb o e=>hx b o (Nat.ne_of_lt (Heap.lt_size e)) e
 exact h pins _ σ H xs _ Q I1 (by simpa using rv) hw
def arh(te:TE)(g:TG):TS:=λD σ H=>te σ H λx H1=>g x σ H1 D.nx
theorem cz{i:Nat}{x:Str}{e:Expr}{te:TE}{pos':Pos}(hN:X.N.Nodup)(hi:X.N[i]? = some x)(hx:Loc X.env.scope x)(he:PE X e te)(hs:swapsWith e (some (.Name x pos')) pos.line X.env=pure false:=by rfl)(hf:X.fn x=true\/X.env.scope.names.lookup x=some .local:=by first | exact .inl rfl | exact .inr rfl | assumption):
  PS X (.Assign [.Name x pos'] e pos) (arh te (ade i)):=by
 intro pins s σ H D I h
 refine wpAny_Assign_Name (thn (he pins s σ H _ I h) λv s1 ⟨y,H1,I1,r1,q1⟩=>?_) hs
 exact af8 I1 hN hi hx r1 (λs2 I2=>⟨_,H1,I2,q1⟩) hf
def a3m(i:Nat)(te:TE)(ti:TIp):TS:=λD σ H=>∃x,σ[i]? = some (some x)/\te σ H λy H1=>ti x y H1 λz H2=>D.nx (σ.set i (some z)) H2
theorem aaw{i:Nat}{x:Str}{e:Expr}{te:TE}{op:Operator}{ti:TIp}{pos':Pos}(hN:X.N.Nodup)(hi:X.N[i]? = some x)(hx:Loc X.env.scope x)(he:PE X e te)(ho:PIp X op ti)(hf:X.fn x=true\/X.env.scope.names.lookup x=some .local:=by first | exact .inl rfl | exact .inr rfl | assumption):
  PS X (.AugAssign (.Name x pos') op e pos) (a3m i te ti):=by
 intro pins s σ H D I h
 obtain⟨v,e1,h⟩:=h
 obtain⟨m,hn,hl⟩:=I.loc
 have vis:Vis X.env.scope x:=by rcases hx with k | k;exact .inl k;exact .inr (.inl k)
 obtain⟨u,r,l⟩:=hl i x v hi e1 vis
 refine wpAny_AugAssign_Name ?_
 have go:wpAny (model X.prog X.w) X.A (eval e X.env) (λw s₂=>wpAny (model X.prog X.w) X.A (inplaceOp op u w) (λr s₃=>wpAny (model X.prog X.w) X.A (storeName X.env x r) (λ_=>SP X pins D .next) X.xe s₃) X.xe s₂) X.xe s:=by
  refine thn (he pins s σ H _ I h) λw s1 ⟨y,H1,I1,r1,q1⟩=>?_
  refine thn (ho pins s1 σ H1 v y u w _ I1 r r1 q1) λz s2 ⟨zv,H2,I2,r2,q2⟩=>?_
  exact af8 I2 hN hi hx r2 (λs3 I3=>⟨_,H2,I3,q2⟩) hf
 rcases l with ⟨hk,hm⟩ | ⟨hk,c,hc,hcell⟩
 ·exact wpAny_loadName_local I.ok.kind hk hn hm go
 ·rcases hk with hk | hk
  ·exact wpAny_loadName_cell I.ok.kind hk hc hcell go
  ·rcases hx with k | k
   ·have:X.env.scope.names.lookup x=some .free:=hk
    rw[k]at this;cases this
   ·have:X.env.scope.names.lookup x=some .free:=hk
    rw[k]at this;cases this
def ipI(f:Int->Int->Int):TIp:=λx y H Q=>∃i j,x=.int i/\y=.int j/\Q (.int (f i j)) H
theorem amw:PIp X .Add (ipI λi j=>i+j):=by
 intro pins s σ H x y v u Q I r1 r2 h
 obtain⟨i,j,e1,e2,q⟩:=h
 subst e1;subst e2
 obtain⟨t,rfl⟩:=r1
 obtain⟨t',rfl⟩:=r2
 exact iadd_int ⟨.int _,H,I.tok _,⟨_,rfl⟩,q⟩
end
section
variable{X:Cx}{pos:Pos}
def a3y(c:TT)(tb:TS):TS:=λD σ H=>∃W:Nat->St->Hp->Prop,(∃m,W m σ H)/\∀m σ H,W m σ H ->
 c σ H λb H1=>if b=true then ∃N:St->Hp->Prop,(∀σ' H',N σ' H'->∃m',m'<m/\W m' σ' H')/\tb {D with nx:=N,ct:=N,bk:=D.nx} σ H1 else D.nx σ H1
theorem afj{c:Expr}{body:List Stmt}{tc:TT}{tb:TS}(hp:PassesOwn (model X.prog X.w) X.A X.env X.xe)(hc:PT X c tc)(hb:PSs X body tb):PS X (.While c body [] pos) (a3y tc tb):=by
 intro pins s σ H D I h
 obtain⟨W,⟨m0,w0⟩,turn⟩:=h
 refine wpAny_While (codeAny_whileLoop (λn s'=>∃σ' H',Inv X pins σ' H' s'/\W n σ' H') ?_ m0 ⟨σ,H,I,w0⟩)
 rintro n s1 ⟨σ1,H1,I1,w1⟩
 refine wpAny_passesOwn hp (thn (hc pins s1 σ1 H1 _ I1 (turn n σ1 H1 w1)) λb s2 ⟨H2,I2,q2⟩=>?_)
 cases b with
 | true =>
  obtain⟨N,hN,q2⟩:=q2
  rw[if_pos rfl]
  refine wpAny_passesOwn hp (thn (hb pins s2 σ1 H2 _ I2 q2) λf s3 q3=>?_)
  cases f with
  | next =>
   obtain⟨σ3,H3,I3,n3⟩:=q3
   obtain⟨m',hm,w3⟩:=hN σ3 H3 n3
   exact⟨m',hm,σ3,H3,I3,w3⟩
  | cont =>
   obtain⟨σ3,H3,I3,n3⟩:=q3
   obtain⟨m',hm,w3⟩:=hN σ3 H3 n3
   exact⟨m',hm,σ3,H3,I3,w3⟩
  | brk=>exact q3
  | ret v=>exact q3
 | false =>
  rw[if_neg Bool.false_ne_true]
  exact wpAny_execs_nil ⟨σ1,H2,I2,q2⟩
end
structure It where
 go:Nat->Hp->Prop
 yld:Nat->Hp->V->Hp->Prop
 stop:Nat->Hp->Prop
def vo(X:Cx)(pins:List (Addr×Obj))(H:Hp)(b:Addr):Prop :=
 H b=none/\b≠X.env.locals/\b∉X.fs/\(b∈X.ex\/X.s_0.heap.objs.size<=b)/\(∀x c,X.env.cells.lookup x=some c->c≠b)/\∀p∈X.pn++pins,p.1≠b
theorem Inv.abb{X:Cx}{pins:List (Addr×Obj)}{σ:St}{H H':Hp}{s:Shared}{b:Addr}(I:Inv X pins σ H s)(hb:s.heap.objs.size<=b)(hn:H' b=none):vo X pins H' b:=by
 refine⟨hn,Nat.ne_of_gt (Nat.lt_of_lt_of_le I.lt hb),I.aw8 hb,.inr (Nat.le_trans I.sz hb),λx c e z=>?_,λp hp z=>?_⟩
 ·obtain⟨v,q⟩:=I.cell x c e
  exact absurd (Nat.lt_of_lt_of_le q.lt (by rw[z];exact hb)) (Nat.lt_irrefl _)
 ·exact absurd (Nat.lt_of_lt_of_le (Heap.lt_size (I.pin p hp).1) (by rw[z];exact hb)) (Nat.lt_irrefl _)
structure Turn(P:Program)(w:World)(K:PySem.W.Frag)(tg:Expr)(J:It)(fp:List Addr)(it:Addr)(tn:Nat->Heap->Prop):Prop where
 mem:it∈fp
 obj:∀i h,tn i h->∀b∈fp,∃o,h.get? b=some o/\∀v,o.data≠.cell v
 keep:∀i h h',tn i h->(∀b∈fp,∀o,h.get? b=some o->h'.get? b=some o)->tn i h'
 item:∀(X:Cx),X.prog=P->X.w=w->X.K=K->X.calm=true->∀(i:Nat) (pins:List (Addr×Obj)) (s:Shared) (σ:St) (H:Hp) (E:Value->Shared->Prop),Inv X pins σ H s->(∀b∈fp,vo X pins H b)->tn i s.heap->J.go i H ->
  wpAny (model P w) X.A (pyNext (.ref it)) (λr s1=>∃u,r=some u /\
   wpAny (model P w) X.A (letOwnedTupleGo tg (.ref it) u) (λ_ s2=>∃x H',Inv X pins σ H' s2/\RelV x u/\J.yld i H x H'/\tn (i+1) s2.heap/\∀b∈fp,H' b=none) E s1) E s
 done:∀(X:Cx),X.prog=P->X.w=w->X.K=K->X.calm=true->∀(i:Nat) (pins:List (Addr×Obj)) (s:Shared) (σ:St) (H:Hp) (E:Value->Shared->Prop),Inv X pins σ H s->(∀b∈fp,vo X pins H b)->tn i s.heap->J.stop i H ->
  wpAny (model P w) X.A (pyNext (.ref it)) (λr s1=>r=none/\Inv X pins σ H s1) E s
 self:∀(A:Around) (i:Nat) (s:Shared) (Q:Value->Shared->Prop) (E:Value->Shared->Prop),tn i s.heap->Q (.ref it) s->wpAny (model P w) A (pyIter (.ref it)) Q E s
abbrev TI:=St->Hp->(It->Hp->Prop)->Prop
def PIE(X:Cx)(pins:List (Addr×Obj))(σ:St)(tg:Expr)(R:It->Hp->Prop)(itv:Value)(s2:Shared):Prop :=
 ∃(it:Addr) (fp:List Addr) (tn:Nat->Heap->Prop) (J:It) (H':Hp),itv=.ref it/\Inv X pins σ H' s2/\Turn X.prog X.w X.K tg J fp it tn/\tn 0 s2.heap/\(∀b∈fp,vo X pins H' b)/\R J H'
def PI(X:Cx)(tg iter:Expr)(wi:TI):Prop :=
 ∀(pins:List (Addr×Obj)) (s:Shared) (σ:St) (H:Hp) (R:It->Hp->Prop),Inv X pins σ H s->wi σ H R ->
  wpAny (model X.prog X.w) X.A (eval iter X.env) (λv s1=>wpAny (model X.prog X.w) X.A (pyIter v) (PIE X pins σ tg R) X.xe s1) X.xe s
theorem abd{M:Model}{A:Around}{E:Value->Shared->Prop}{s:Shared}{tg:Expr}{it:Addr}{u:Value}{o:Obj}{n:String}{vs:Array Value}{Q:Unit->Shared->Prop}(ho:s.heap.get? it=some o)(hc:o.cls=.type n)(hd:o.data=.fields vs)
  (hn:["enumerate", "zip", "dict_itemiterator", "dict_reverseitemiterator", "odict_iterator", "itertools.zip_longest", "itertools.pairwise"].contains n=false) (hQ:Q () s):wpAny M A (letOwnedTupleGo tg (.ref it) u) Q E s:=by
 unfold letOwnedTupleGo
 cases tg<;>first
  | exact wpAny_pure hQ
  | (cases u<;>first
    | exact wpAny_pure hQ
    | (refine wpAny_bind (wpAny_load ho ?_)
       rw[hc,hd]
       show wpAny M A (if (["enumerate", "zip", "dict_itemiterator", "dict_reverseitemiterator", "odict_iterator", "itertools.zip_longest", "itertools.pairwise"].contains n&&vs[0]?==some (rawInt _))=true then _ else _) Q E s
       rw[if_neg (by intro h;rw[hn,Bool.false_and]at h;cases h)]
       exact wpAny_pure hQ))
def Itl(K:PySem.W.Frag)(a:Addr):It :=
 ⟨λi H=>∃xs x,SqL K H a xs/\xs[i]? = some x,λi H x H'=>H'=H/\∀xs,SqL K H a xs->xs[i]? = some x,λi H=>∃xs,SqL K H a xs/\xs.length<=i⟩
def Itt(K:PySem.W.Frag)(a:Addr):It :=
 ⟨λi H=>∃xs x,SqT K H a xs/\xs[i]? = some x,λi H x H'=>H'=H/\∀xs,SqT K H a xs->xs[i]? = some x,λi H=>∃xs,SqT K H a xs/\xs.length<=i⟩
def Itr(lo:Int)(n:Nat):It:=⟨λi _=>i<n,λi H x H'=>H'=H/\x=.int (lo+i),λi _=>n<=i⟩
theorem a4i{P:Program}{w:World}{K:PySem.W.Frag}{tg:Expr}(a it:Addr):Turn P w K tg (Itl K a) [it] it (λi h=>h.IsListIter it a i) where
 mem:=by simp
 obj:=λi h st b hb=>by
  have e:b=it:=by simpa using hb
  subst e
  obtain⟨o,e,c,d⟩:=st
  exact⟨o,e,λv z=>by rw[d]at z;cases z⟩
 keep:=λi h h' st k=>st.at λo e=>k it (by simp) o e
 item:=by
  intro X hP hw hK hc i pins s σ H E I hf st hg
  subst hP hw hK
  obtain⟨xs,x,hq,hx⟩:=hg
  obtain⟨its,rv,p,hz⟩:=I.list hq
  obtain⟨u,hu,ru⟩:=rv.get hx
  obtain⟨f0,f1,f2,f3,f4,f5⟩:=hf it (by simp)
  refine wpAny_pyNext_list_item st p.isList (x:=u) (by simpa using hu) λh' st' sb=>?_
  have I1:Inv X pins σ H {s with heap:=h'}:=I.turned (t':=s.toks) (λb o hb e=>(sb.2 b hb).trans e) f0 f1 f3 f4 f5
  obtain⟨o,e,c,d⟩:=id st'
  exact⟨u,rfl,abd (s:={s with heap:=h'}) e c d (by decide) ⟨x,H,I1,ru,⟨rfl,λys hy=>by rw[I.ae3 hy hq];exact hx⟩,st',λb hb=>(hf b hb).1⟩⟩
 done:=by
  intro X hP hw hK hc i pins s σ H E I hf st hg
  subst hP hw hK
  obtain⟨xs,hq,hx⟩:=hg
  obtain⟨its,rv,p,hz⟩:=I.list hq
  obtain⟨f0,f1,f2,f3,f4,f5⟩:=hf it (by simp)
  have hl:=rv.length
  exact wpAny_pyNext_list_end (I.ok.hd hc) st p.isList (by simp;omega) λh' eb=>⟨rfl,I.turned (t':=s.toks) (λb o hb e=>eb b o hb e) f0 f1 f3 f4 f5⟩
 self:=λ_ _ _ _ _ st h=>wpAny_pyIter_listiter st h
theorem a4l{P:Program}{w:World}{K:PySem.W.Frag}{tg:Expr}(a it:Addr):Turn P w K tg (Itt K a) [it] it (λi h=>h.IsTupleIter it a i) where
 mem:=by simp
 obj:=λi h st b hb=>by
  have e:b=it:=by simpa using hb
  subst e
  obtain⟨o,e,c,d⟩:=st
  exact⟨o,e,λv z=>by rw[d]at z;cases z⟩
 keep:=λi h h' st k=>st.at λo e=>k it (by simp) o e
 item:=by
  intro X hP hw hK hc i pins s σ H E I hf st hg
  subst hP hw hK
  obtain⟨xs,x,hq,hx⟩:=hg
  obtain⟨its,rv,p,hz⟩:=I.tuple hq
  obtain⟨u,hu,ru⟩:=rv.get hx
  obtain⟨f0,f1,f2,f3,f4,f5⟩:=hf it (by simp)
  refine wpAny_pyNext_tuple_item st (show s.heap.IsTuple a its.toArray from p) (x:=u) (by simpa using hu) λh' st' sb=>?_
  have I1:Inv X pins σ H {s with heap:=h'}:=I.turned (t':=s.toks) (λb o hb e=>(sb.2 b hb).trans e) f0 f1 f3 f4 f5
  obtain⟨o,e,c,d⟩:=id st'
  exact⟨u,rfl,abd (s:={s with heap:=h'}) e c d (by decide) ⟨x,H,I1,ru,⟨rfl,λys hy=>by rw[I.a4d hy hq];exact hx⟩,st',λb hb=>(hf b hb).1⟩⟩
 done:=by
  intro X hP hw hK hc i pins s σ H E I hf st hg
  subst hP hw hK
  obtain⟨xs,hq,hx⟩:=hg
  obtain⟨its,rv,p,hz⟩:=I.tuple hq
  obtain⟨f0,f1,f2,f3,f4,f5⟩:=hf it (by simp)
  have hl:=rv.length
  exact wpAny_pyNext_tuple_end (I.ok.hd hc) st (show s.heap.IsTuple a its.toArray from p) (by simp;omega) λh' eb=>⟨rfl,I.turned (t':=s.toks) (λb o hb e=>eb b o hb e) f0 f1 f3 f4 f5⟩
 self:=λ_ _ _ _ _ st h=>wpAny_pyIter_tupleiter st h
theorem a4j{P:Program}{w:World}{K:PySem.W.Frag}{tg:Expr}(it:Addr)(lo:Int)(n:Nat):Turn P w K tg (Itr lo n) [it] it (λi h=>IsRangeIter h it (lo+(i:Nat)*1) ((n:Int)-(i:Nat)) 1) where
 mem:=by simp
 obj:=λi h st b hb=>by
  have e:b=it:=by simpa using hb
  subst e
  exact⟨_,st,λv z=>by
   have z':Data.fields _=Data.cell v:=z
   cases z'⟩
 keep:=λi h h' st k=>k it (by simp) _ st
 item:=by
  intro X hP hw hK hc i pins s σ H E I hf st hg
  subst hP hw hK
  obtain⟨f0,f1,f2,f3,f4,f5⟩:=hf it (by simp)
  have W:=Walks.range (prog:=X.prog) (w:=X.w) (I.ok.hd hc) it lo 1 n
  refine W.item i s _ _ hg st λv h' tk hv st' kk=>?_
  obtain⟨t,rfl⟩:=hv
  have I1:Inv X pins σ H {s with heap:=h',toks:=tk}:=I.turned (λb o hb e=>kk b o (by simpa using hb) e) f0 f1 f3 f4 f5
  refine⟨_,rfl,abd (s:={s with heap:=h',toks:=tk}) (n := "range_iterator") st' rfl rfl (by decide) ⟨.int (lo+i),H,I1,⟨t,?_⟩,⟨rfl,rfl⟩,st',λb hb=>(hf b hb).1⟩⟩
  rw[Int.mul_one]
 done:=by
  intro X hP hw hK hc i pins s σ H E I hf st hg
  subst hP hw hK
  obtain⟨f0,f1,f2,f3,f4,f5⟩:=hf it (by simp)
  exact wpAny_pyNext_range_end (I.ok.hd hc) st (by have:n<=i:=hg;omega) λh' eb=>⟨rfl,I.turned (t':=s.toks) (λb o hb e=>eb b o hb e) f0 f1 f3 f4 f5⟩
 self:=λ_ _ _ _ _ st h=>wpAny_pyIter_rangeiter st h
section
variable{X:Cx}{tg:Expr}
def au9(K:PySem.W.Frag)(tl:TE):TI:=λσ H R=>tl σ H λx H1=>∃a,x=.ref a/\(∃xs,SqL K H1 a xs)/\R (Itl K a) H1
def avd(K:PySem.W.Frag)(tl:TE):TI:=λσ H R=>tl σ H λx H1=>∃a,x=.ref a/\(∃xs,SqT K H1 a xs)/\R (Itt K a) H1
theorem aas{l:Expr}{tl:TE}(hl:PE X l tl):PI X tg l (au9 X.K tl):=by
 intro pins s σ H R I h
 refine thn (hl pins s σ H _ I h) λv s1 ⟨x,H1,I1,r1,q1⟩=>?_
 obtain⟨a,e,⟨xs,hq⟩,q⟩:=q1
 subst e
 cases r1
 obtain⟨its,rv,p,hz⟩:=I1.list hq
 refine wpAny_pyIter_list p.isList ?_
 refine⟨s1.heap.objs.size,[s1.heap.objs.size],_,_,H1,rfl,I1.kept (t':=s1.toks) λb o e=>Heap.get?_push_of_some _ e,a4i a _,⟨_,Heap.get?_push_size _ rfl,rfl,rfl⟩,λb hb=>?_,q⟩
 have e:b=s1.heap.objs.size:=by simpa using hb
 subst e
 exact I1.abb (Nat.le_refl _) (I1.hok.fresh (Nat.le_refl _))
theorem adx{l:Expr}{tl:TE}(hl:PE X l tl):PI X tg l (avd X.K tl):=by
 intro pins s σ H R I h
 refine thn (hl pins s σ H _ I h) λv s1 ⟨x,H1,I1,r1,q1⟩=>?_
 obtain⟨a,e,⟨xs,hq⟩,q⟩:=q1
 subst e
 cases r1
 obtain⟨its,rv,p,hz⟩:=I1.tuple hq
 refine wpAny_pyIter_tuple (show s1.heap.IsTuple a its.toArray from p) ?_
 refine⟨s1.heap.objs.size,[s1.heap.objs.size],_,_,H1,rfl,I1.kept (t':=s1.toks) λb o e=>Heap.get?_push_of_some _ e,a4l a _,⟨_,Heap.get?_push_size _ rfl,rfl,rfl⟩,λb hb=>?_,q⟩
 have e:b=s1.heap.objs.size:=by simpa using hb
 subst e
 exact I1.abb (Nat.le_refl _) (I1.hok.fresh (Nat.le_refl _))
theorem a00{pins:List (Addr×Obj)}{σ:St}{H:Hp}{s:Shared}{R:It->Hp->Prop}{E:Value->Shared->Prop}{lo hi:Int}{t u v:Tok}{tk:Nat}(I:Inv X pins σ H s)(h1:-(2 ^ 62)<=lo)(h2:lo<2 ^ 62)(h3:-(2 ^ 62)<=hi)(h4:hi<2 ^ 62)
  (q:R (Itr lo (hi-lo).toNat) H):wpAny (model X.prog X.w) X.A (pyIter (.ref s.heap.objs.size)) (PIE X pins σ tg R) E {s with heap:=s.heap.push {cls:=.type "range",data:=.fields #[.int lo t,.int hi u,.int 1 v]},toks:=tk}:=by
 refine wpAny_pyIter_range (IsRange.new ..) (small_one h1 h2 h3 h4) ?_
 have I1:Inv X pins σ H {s with heap:=s.heap.push {cls:=.type "range",data:=.fields #[.int lo t,.int hi u,.int 1 v]},toks:=tk}:=I.kept λb o e=>Heap.get?_push_of_some _ e
 refine⟨(s.heap.push {cls:=.type "range",data:=.fields #[.int lo t,.int hi u,.int 1 v]}).objs.size,[(s.heap.push {cls:=.type "range",data:=.fields #[.int lo t,.int hi u,.int 1 v]}).objs.size],_,_,H,rfl,
  I1.kept (t':=tk) λb o e=>Heap.get?_push_of_some _ e,a4j _ lo (hi-lo).toNat,?_,λb hb=>?_,q⟩
 ·have e1:lo+((0:Nat):Int)*1=lo:=by simp
  have e2:(((hi-lo).toNat:Nat):Int)-((0:Nat):Int)=Builtin.Range.rangeSize lo hi 1:=by rw[rangeSize_one];split<;>omega
  show IsRangeIter _ _ (lo+((0:Nat):Int)*1) ((((hi-lo).toNat:Nat):Int)-((0:Nat):Int)) 1
  rw[e1,e2]
  exact Heap.get?_push_size _ rfl
 ·have e:b=(s.heap.push {cls:=.type "range",data:=.fields #[.int lo t,.int hi u,.int 1 v]}).objs.size:=by simpa using hb
  subst e
  exact I1.abb (Nat.le_refl _) (I1.hok.fresh (Nat.le_refl _))
def avb(ta:TA):TI:=λσ H R=>ta σ H λvs H1=>∃j:Int,vs=[.int j]/\-(2 ^ 62)<=j/\j<2 ^ 62/\R (Itr 0 j.toNat) H1
theorem afe{a:Expr}{ta:TA}{p pos:Pos}(hg:Gl X "range")(hm:X.mg "range" = none)(ha:PA X [a] ta)(hs:starEach [a] X.env=[(false,eval a X.env)]:=by rfl):PI X tg (.Call (.Name "range" p) [a] [] pos) (avb ta):=by
 intro pins s σ H R I h
 refine Call_ (ab8 I hg hm boot_range (PyProof.Rows.callWith_type1 (thn (ha pos pins s σ H _ I h) λus s1 ⟨vs,H1,I1,r1,q1⟩=>?_) hs rfl))
 obtain⟨j,e,q1,q2,q⟩:=q1
 subst e
 cases r1 with
 | cons r rr =>
  cases rr
  obtain⟨t,rfl⟩:=r
  exact call_range_1 (a00 I1 (by omega) (by omega) q1 q2 (by simpa using q))
def ark(wi:TI)(g:TG)(tb:TS):TS:=λD σ H=>wi σ H λJ H1=>∃W:Nat->Nat->St->Hp->Prop,(∃m,W 0 m σ H1)/\∀i m σ H,W i m σ H ->
 (J.stop i H/\D.nx σ H)\/(J.go i H/\∃N:St->Hp->Prop,(∀σ' H',N σ' H'->∃m',m'<m/\W (i+1) m' σ' H')/\∀x H',J.yld i H x H'->g x σ H' λσ2 H2=>tb {D with nx:=N,ct:=N,bk:=D.nx} σ2 H2)
def ady(fp:List Addr)(h:Heap):List (Addr×Obj):=fp.filterMap λb=>(h.get? b).map λo=>(b,o)
theorem aht{fp:List Addr}{h:Heap}{b:Addr}{o:Obj}(hb:b∈fp)(e:h.get? b=some o):(b,o)∈ady fp h:=List.mem_filterMap.mpr ⟨b,hb,by rw[e];rfl⟩
theorem axh{fp:List Addr}{h:Heap}{p:Addr×Obj}(hp:p∈ady fp h):p.1∈fp/\h.get? p.1=some p.2:=by
 obtain⟨b,hb,e⟩:=List.mem_filterMap.mp hp
 cases q:h.get? b with
 | none=>rw[q]at e;cases e
 | some o =>
  rw[q]at e
  have e':(b,o)=p:=Option.some.inj e
  subst e'
  exact⟨hb,q⟩
theorem Inv.pinned{pins:List (Addr×Obj)}{σ:St}{H:Hp}{s:Shared}{fp:List Addr}(I:Inv X pins σ H s)(hf:∀b∈fp,vo X pins H b)(ho:∀b∈fp,∃o,s.heap.get? b=some o/\∀v,o.data≠.cell v):Inv X (pins++ady fp s.heap) σ H s :=
 I.aoc λp hp=>(List.mem_append.mp hp).elim (λz=>I.pin p (List.mem_append_right _ z)) λz=>by
  obtain⟨hb,e⟩:=axh z
  obtain⟨f0,f1,f2,_⟩:=hf p.1 hb
  obtain⟨o,e',d⟩:=ho p.1 hb
  rw[e]at e';cases e'
  exact⟨e,f0,f1,f2,d⟩
theorem Inv.agf{pins pl:List (Addr×Obj)}{σ:St}{H:Hp}{s:Shared}(I:Inv X (pins++pl) σ H s):Inv X pins σ H s:=I.aoc λp hp=>I.pin p (List.mem_append_right _ (List.mem_append_left _ hp))
theorem t7{iter:Expr}{body:List Stmt}{wi:TI}{g:TG}{tb:TS}{pos:Pos}(hp:PassesOwn (model X.prog X.w) X.A X.env X.xe)(hc:X.calm=true)(hi:PI X tg iter wi)(hg:PG X tg g)(hb:PSs X body tb)
  (hs:∀x,foldedSetIterable iter X.env x=pure x:=by intro _;rfl):PS X (.For tg iter body [] pos) (ark wi g tb):=by
 intro pins s σ H D I h
 refine wpAny_For (thn (hi pins s σ H _ I h) λv s1 h1=>thn h1 λitv s2 h2=>?_) hs
 obtain⟨it,fp,tn,J,H2,e,I2,T,st2,f2,W,⟨m0,w0⟩,turn⟩:=h2
 subst e
 have stat:∀{H':Hp},(∀b∈fp,H' b=none)->∀b∈fp,vo X pins H' b:=λhn b hb=>⟨hn b hb,(f2 b hb).2⟩
 refine codeAny_forLoop_any (λn s'=>∃i σ' H',Inv X pins σ' H' s'/\tn i s'.heap/\(∀b∈fp,H' b=none)/\W i n σ' H') ?_ m0 ⟨0,σ,H2,I2,st2,λb hb=>(f2 b hb).1,w0⟩
 rintro n s3 ⟨i,σ3,H3,I3,st3,fr3,w3⟩
 rcases turn i n σ3 H3 w3 with ⟨stop,qn⟩ | ⟨go,N,hN,step⟩
 ·refine wpAny_passesOwn hp (thn (T.done X rfl rfl rfl hc i pins s3 σ3 H3 X.xe I3 (stat fr3) st3 stop) λr s4 ⟨hr,I4⟩=>?_)
  subst hr
  exact wpAny_execs_nil ⟨σ3,H3,I4,qn⟩
 ·refine wpAny_passesOwn hp (thn (T.item X rfl rfl rfl hc i pins s3 σ3 H3 X.xe I3 (stat fr3) st3 go) λr s4 ⟨u,hr,h4⟩=>?_)
  subst hr
  refine wpAny_passesOwn hp (thn h4 λ_ s5 ⟨x,H5,I5,r5,y5,st5,fr5⟩=>?_)
  have I5':=I5.pinned (stat fr5) (T.obj _ _ st5)
  refine wpAny_passesOwn hp (thn (hg _ s5 σ3 H5 x u _ I5' r5 (step x H5 y5)) λ_ s6 ⟨σ6,H6,I6,q6⟩=>?_)
  refine wpAny_passesOwn hp (thn (hb _ s6 σ6 H6 _ I6 q6) λf s7 q7=>?_)
  have again:∀{σ7:St}{H7:Hp},Inv X (pins++ady fp s5.heap) σ7 H7 s7->N σ7 H7->∃m,m<n/\∃i σ' H',Inv X pins σ' H' s7/\tn i s7.heap/\(∀b∈fp,H' b=none)/\W i m σ' H':=λ{σ7 H7} I7 n7=>by
   obtain⟨m',hm,w7⟩:=hN σ7 H7 n7
   refine⟨m',hm,i+1,σ7,H7,I7.agf,T.keep _ _ _ st5 λb hb o e=>(I7.pin (b,o) (List.mem_append_right _ (List.mem_append_right _ (aht hb e)))).1,λb hb=>?_,w7⟩
   obtain⟨o,e,d⟩:=T.obj _ _ st5 b hb
   exact(I7.pin (b,o) (List.mem_append_right _ (List.mem_append_right _ (aht hb e)))).2.1
  cases f with
  | next=>obtain⟨σ7,H7,I7,n7⟩:=q7;exact again I7 n7
  | cont=>obtain⟨σ7,H7,I7,n7⟩:=q7;exact again I7 n7
  | brk=>obtain⟨σ7,H7,I7,q7⟩:=q7;exact⟨σ7,H7,I7.agf,q7⟩
  | ret v=>obtain⟨x7,σ7,H7,I7,r7,q7⟩:=q7;exact⟨x7,σ7,H7,I7.agf,r7,q7⟩
end
theorem ame{K:PySem.W.Frag}{a:Addr}{xs:List V}{g:TG}{tb:TS}{D:Ends}{σ:St}{H:Hp}(Pv:Nat->St->Hp->Prop)(h0:Pv 0 σ H)(hl:∀i σ H,i<=xs.length->Pv i σ H->SqL K H a xs)
  (hs:∀i x σ H,xs[i]? = some x->Pv i σ H->g x σ H λσ2 H2=>tb {D with nx:=Pv (i+1),ct:=Pv (i+1),bk:=D.nx} σ2 H2) (hd:∀σ H,Pv xs.length σ H->D.nx σ H) :
  ∃W:Nat->Nat->St->Hp->Prop,(∃m,W 0 m σ H)/\∀i m σ H,W i m σ H ->
   ((Itl K a).stop i H/\D.nx σ H)\/((Itl K a).go i H/\∃N:St->Hp->Prop,(∀σ' H',N σ' H'->∃m',m'<m/\W (i+1) m' σ' H')/\∀x H',(Itl K a).yld i H x H'->g x σ H' λσ2 H2=>tb {D with nx:=N,ct:=N,bk:=D.nx} σ2 H2):=by
 refine⟨λi m σ H=>m=xs.length-i/\i<=xs.length/\Pv i σ H,⟨xs.length,by simp,Nat.zero_le _,h0⟩,?_⟩
 rintro i m σ H ⟨rfl,hi,p⟩
 have q:=hl i σ H hi p
 by_cases hlt:i<xs.length
 ·refine .inr ⟨⟨xs,xs[i],q,by simp[hlt]⟩,Pv (i+1),λσ' H' p'=>⟨xs.length-(i+1),by omega,rfl,hlt,p'⟩,λx H' y=>?_⟩
  obtain⟨e,y⟩:=y
  subst e
  exact hs i x σ _ (y xs q) p
 ·have e:i=xs.length:=by omega
  subst e
  exact .inl ⟨⟨xs,q,Nat.le_refl _⟩,hd σ H p⟩
theorem adb{K:PySem.W.Frag}{a:Addr}{xs:List V}{g:TG}{tb:TS}{D:Ends}{σ:St}{H:Hp}(Pv:Nat->St->Hp->Prop)(h0:Pv 0 σ H)(hl:∀i σ H,i<=xs.length->Pv i σ H->SqT K H a xs)
  (hs:∀i x σ H,xs[i]? = some x->Pv i σ H->g x σ H λσ2 H2=>tb {D with nx:=Pv (i+1),ct:=Pv (i+1),bk:=D.nx} σ2 H2) (hd:∀σ H,Pv xs.length σ H->D.nx σ H) :
  ∃W:Nat->Nat->St->Hp->Prop,(∃m,W 0 m σ H)/\∀i m σ H,W i m σ H ->
   ((Itt K a).stop i H/\D.nx σ H)\/((Itt K a).go i H/\∃N:St->Hp->Prop,(∀σ' H',N σ' H'->∃m',m'<m/\W (i+1) m' σ' H')/\∀x H',(Itt K a).yld i H x H'->g x σ H' λσ2 H2=>tb {D with nx:=N,ct:=N,bk:=D.nx} σ2 H2):=by
 refine⟨λi m σ H=>m=xs.length-i/\i<=xs.length/\Pv i σ H,⟨xs.length,by simp,Nat.zero_le _,h0⟩,?_⟩
 rintro i m σ H ⟨rfl,hi,p⟩
 have q:=hl i σ H hi p
 by_cases hlt:i<xs.length
 ·refine .inr ⟨⟨xs,xs[i],q,by simp[hlt]⟩,Pv (i+1),λσ' H' p'=>⟨xs.length-(i+1),by omega,rfl,hlt,p'⟩,λx H' y=>?_⟩
  obtain⟨e,y⟩:=y
  subst e
  exact hs i x σ _ (y xs q) p
 ·have e:i=xs.length:=by omega
  subst e
  exact .inl ⟨⟨xs,q,Nat.le_refl _⟩,hd σ H p⟩
theorem ag6{lo:Int}{n:Nat}{g:TG}{tb:TS}{D:Ends}{σ:St}{H:Hp}(Pv:Nat->St->Hp->Prop)(h0:Pv 0 σ H)
  (hs:∀i σ H,i<n->Pv i σ H->g (.int (lo+i)) σ H λσ2 H2=>tb {D with nx:=Pv (i+1),ct:=Pv (i+1),bk:=D.nx} σ2 H2) (hd:∀σ H,Pv n σ H->D.nx σ H) :
  ∃W:Nat->Nat->St->Hp->Prop,(∃m,W 0 m σ H)/\∀i m σ H,W i m σ H ->
   ((Itr lo n).stop i H/\D.nx σ H)\/((Itr lo n).go i H/\∃N:St->Hp->Prop,(∀σ' H',N σ' H'->∃m',m'<m/\W (i+1) m' σ' H')/\∀x H',(Itr lo n).yld i H x H'->g x σ H' λσ2 H2=>tb {D with nx:=N,ct:=N,bk:=D.nx} σ2 H2):=by
 refine⟨λi m σ H=>m=n-i/\i<=n/\Pv i σ H,⟨n,by simp,Nat.zero_le _,h0⟩,?_⟩
 rintro i m σ H ⟨rfl,hi,p⟩
 by_cases hlt:i<n
 ·refine .inr ⟨hlt,Pv (i+1),λσ' H' p'=>⟨n-(i+1),by omega,rfl,hlt,p'⟩,λx H' y=>?_⟩
  obtain⟨e,y⟩:=y
  subst e y
  exact hs i σ _ hlt p
 ·have e:i=n:=by omega
  subst e
  exact .inl ⟨Nat.le_refl _,hd σ H p⟩
abbrev R2:=V->V->Hp->VK->Prop
def OpR(X:Cx)(f:Value->Value->Sem Value)(r:R2):Prop :=
 ∀(pins:List (Addr×Obj)) (s:Shared) (σ:St) (H:Hp) (x y:V) (v u:Value) (Q:VK),Inv X pins σ H s->RelV x v->RelV y u->r x y H Q ->
  wpAny (model X.prog X.w) X.A (f v u) (EP X pins σ Q) X.xe s
def UnR(X:Cx)(f:Value->Sem Value)(r:V->Hp->VK->Prop):Prop :=
 ∀(pins:List (Addr×Obj)) (s:Shared) (σ:St) (H:Hp) (x:V) (v:Value) (Q:VK),Inv X pins σ H s->RelV x v->r x H Q ->
  wpAny (model X.prog X.w) X.A (f v) (EP X pins σ Q) X.xe s
def vh(X:Cx)(f:Value)(r:List V->Hp->VK->Prop):Prop :=
 ∀(pins:List (Addr×Obj)) (s:Shared) (σ:St) (H:Hp) (xs:List V) (us:List Value) (Q:VK),Inv X pins σ H s->Vals xs us->r xs H Q ->
  wpAny (model X.prog X.w) X.A (call f us) (EP X pins σ Q) X.xe s
def ass(X:Cx)(r:V->Hp->(Bool->Hp->Prop)->Prop):Prop :=
 ∀(pins:List (Addr×Obj)) (s:Shared) (σ:St) (H:Hp) (x:V) (v:Value) (Q:Bool->Hp->Prop),Inv X pins σ H s->RelV x v->r x H Q ->
  wpAny (model X.prog X.w) X.A (truthy v) (TP X pins σ Q) X.xe s
def tOp(r:R2)(ta tb:TE):TE:=λσ H Q=>ta σ H λx H1=>tb σ H1 λy H2=>r x y H2 Q
def tUn(r:V->Hp->VK->Prop)(ta:TE):TE:=λσ H Q=>ta σ H λx H1=>r x H1 Q
def rI(C:Int->Int->Prop)(g:Int->Int->V):R2:=λx y H Q=>∃i j,x=.int i/\y=.int j/\C i j/\Q (g i j) H
def rI0(g:Int->Int->V):R2:=λx y H Q=>∃i j,x=.int i/\y=.int j/\Q (g i j) H
def rU(g:Int->V):V->Hp->VK->Prop:=λx H Q=>∃i,x=.int i/\Q (g i) H
section
variable{X:Cx}{a b c:Expr}{ta tb tc:TE}{pos:Pos}
theorem agq(ha:PE X a ta)(hb:PE X b tb){pins:List (Addr×Obj)}{s:Shared}{σ:St}{H:Hp}{R:V->V->Hp->Prop}(I:Inv X pins σ H s)
  (h:ta σ H λx H1=>tb σ H1 λy H2=>R x y H2) {Q:Value->Shared->Prop}{f:Value->Value->Sem Value}
  (hf:∀v u s2 x y H2,Inv X pins σ H2 s2->RelV x v->RelV y u->R x y H2->wpAny (model X.prog X.w) X.A (f v u) Q X.xe s2) :
  wpAny (model X.prog X.w) X.A (eval a X.env) (λv s₁=>wpAny (model X.prog X.w) X.A (eval b X.env) (λu s₂=>wpAny (model X.prog X.w) X.A (f v u) Q X.xe s₂) X.xe s₁) X.xe s:=by
 refine thn (ha pins s σ H _ I h) λv s1 ⟨x,H1,I1,r1,q1⟩=>?_
 refine thn (hb pins s1 σ H1 _ I1 q1) λu s2 ⟨y,H2,I2,r2,q2⟩=>?_
 exact hf v u s2 x y H2 I2 r1 r2 q2
theorem gw{op:Operator}{r:R2}(ho:OpR X (binaryOp op) r)(ha:PE X a ta)(hb:PE X b tb):PE X (.BinOp a op b pos) (tOp r ta tb):=by
 intro pins s σ H Q I h
 exact wpAny_BinOp (agq ha hb I h λv u s2 x y H2 I2 rx ry q=>ho pins s2 σ H2 x y v u Q I2 rx ry q)
theorem aci{op:UnaryOp}{r:V->Hp->VK->Prop}(ho:UnR X (unaryOp op) r)(ha:PE X a ta):PE X (.UnaryOp op a pos) (tUn r ta):=by
 intro pins s σ H Q I h
 exact UnaryOp_ (thn (ha pins s σ H _ I h) λv s1 ⟨x,H1,I1,r1,q1⟩=>ho pins s1 σ H1 x v Q I1 r1 q1)
theorem opI{f:Value->Value->Sem Value}{C:Int->Int->Prop}{g:Int->Int->Int}
  (rule:∀(i j:Int) (t u:Tok) (s:Shared) (Q:Value->Shared->Prop) (E:Value->Shared->Prop),C i j->Q (.int (g i j) s.toks) {s with toks:=s.toks+1}->wpAny (model X.prog X.w) X.A (f (.int i t) (.int j u)) Q E s) :
  OpR X f (rI C λi j=>.int (g i j)):=by
 intro pins s σ H x y v u Q I rx ry h
 obtain⟨i,j,rfl,rfl,hc,q⟩:=h
 obtain⟨t,rfl⟩:=rx
 obtain⟨t',rfl⟩:=ry
 exact rule i j t t' s _ _ hc ⟨.int (g i j),H,I.tok _,⟨_,rfl⟩,q⟩
theorem anv{f:Value->Value->Sem Value}{g:Int->Int->Int}
  (rule:∀(i j:Int) (t u:Tok) (s:Shared) (Q:Value->Shared->Prop) (E:Value->Shared->Prop),Q (.int (g i j) s.toks) {s with toks:=s.toks+1}->wpAny (model X.prog X.w) X.A (f (.int i t) (.int j u)) Q E s) :
  OpR X f (rI0 λi j=>.int (g i j)):=by
 intro pins s σ H x y v u Q I rx ry h
 obtain⟨i,j,rfl,rfl,q⟩:=h
 obtain⟨t,rfl⟩:=rx
 obtain⟨t',rfl⟩:=ry
 exact rule i j t t' s _ _ ⟨.int (g i j),H,I.tok _,⟨_,rfl⟩,q⟩
theorem ae8{f:Value->Value->Sem Value}{g:Int->Int->Bool}
  (rule:∀(i j:Int) (t u:Tok) (s:Shared) (Q:Value->Shared->Prop) (E:Value->Shared->Prop),Q (.bool (g i j)) s->wpAny (model X.prog X.w) X.A (f (.int i t) (.int j u)) Q E s) :
  OpR X f (rI0 λi j=>.bl (g i j)):=by
 intro pins s σ H x y v u Q I rx ry h
 obtain⟨i,j,rfl,rfl,q⟩:=h
 obtain⟨t,rfl⟩:=rx
 obtain⟨t',rfl⟩:=ry
 exact rule i j t t' s _ _ ⟨.bl (g i j),H,I,rfl,q⟩
def asl(i j:Int):Prop:=0<j/\j<1073741824
def agh(i j:Int):Prop:=(-(2 ^ 64)<i/\i<2 ^ 64)\/(-(2 ^ 64)<j/\j<2 ^ 64)
theorem agh.ok{i j:Int}(h:agh i j):IntMulOk i j:=by
 rcases h with ⟨h1,h2⟩ | ⟨h1,h2⟩
 ·exact .of_left (intBits_le_64 h1 h2)
 ·exact .of_right (intBits_le_64 h1 h2)
theorem yr:OpR X (binaryOp .Add) (rI0 λi j=>.int (i+j)):=anv λ_ _ _ _ _ _ _ q=>add_int q
theorem aar:OpR X (binaryOp .Sub) (rI0 λi j=>.int (i-j)):=anv λ_ _ _ _ _ _ _ q=>sub_int q
theorem ae9:OpR X (binaryOp .Mult) (rI agh λi j=>.int (i*j)):=opI λ_ _ _ _ _ _ _ hc q=>mul_int q hc.ok
theorem ah5:OpR X (binaryOp .FloorDiv) (rI asl λi j=>.int (i / j)):=opI λi j _ _ _ _ _ hc q=>by
 have h1:(0:Int)<j:=hc.1
 have h2:j<1073741824:=hc.2
 exact floordiv_int (by omega) (by rw[Int.fdiv_eq_ediv_of_nonneg i (by omega)];exact q) (.inl (PyProof.noPylong_small (by omega)))
theorem abg:OpR X (binaryOp .Mod) (rI (λ_ j=>0<j) λi j=>.int (i % j)):=opI λi j _ _ _ _ _ hc q=>by
 have h1:(0:Int)<j:=hc
 exact mod_int' (by omega) (by rw[Int.fmod_eq_emod_of_nonneg i (by omega)];exact q)
theorem unI{f:Value->Sem Value}{g:Int->Int}
  (rule:∀(i:Int) (t:Tok) (s:Shared) (Q:Value->Shared->Prop) (E:Value->Shared->Prop),Q (.int (g i) s.toks) {s with toks:=s.toks+1}->wpAny (model X.prog X.w) X.A (f (.int i t)) Q E s) :
  UnR X f (rU λi=>.int (g i)):=by
 intro pins s σ H x v Q I rx h
 obtain⟨i,rfl,q⟩:=h
 obtain⟨t,rfl⟩:=rx
 exact rule i t s _ _ ⟨.int (g i),H,I.tok _,⟨_,rfl⟩,q⟩
theorem acw:UnR X (unaryOp .USub) (rU λi=>.int (-i)):=unI λ_ _ _ _ _ q=>neg_int q
end
def ap6:V->V->Bool
 | .non,.non=>true | .non,.int _=>true | .int _,.non=>true | .non,.bl _=>true | .bl _,.non=>true | .non,.str _=>true | .str _,.non=>true
 | .int _,.int _=>true | .bl _,.bl _=>true | .str _,.str _=>true | .byt _,.byt _=>true
 | .int _,.str _=>true | .str _,.int _=>true | .bl _,.str _=>true | .str _,.bl _=>true
 | _,_=>false
def rEq:R2:=λx y H Q=>ap6 x y=true/\Q (.bl (decide (x=y))) H
def rNe:R2:=λx y H Q=>ap6 x y=true/\Q (.bl (!decide (x=y))) H
theorem alw{i j:Int}:decide (V.int i=V.int j)=(i==j):=by
 rw[Bool.eq_iff_iff]
 simp
theorem alu{i j:Bool}:decide (V.bl i=V.bl j)=(i==j):=by
 rw[Bool.eq_iff_iff]
 simp
theorem alx{i j:Str}:decide (V.str i=V.str j)=(i==j):=by
 rw[Bool.eq_iff_iff]
 simp
theorem alv{i j:Array UInt8}:decide (V.byt i=V.byt j)=(i.toList==j.toList):=by
 rw[Bool.eq_iff_iff]
 cases i
 cases j
 simp
section
variable{X:Cx}{a b c:Expr}{ta tb tc:TE}{pos:Pos}
theorem iu{pins:List (Addr×Obj)}{σ:St}{H:Hp}{s:Shared}{Q:VK}{k k':Bool}(I:Inv X pins σ H s)(q:Q (.bl k) H)(e:k=k'):EP X pins σ Q (.bool k') s:=by
 subst e
 exact⟨.bl k,H,I,rfl,q⟩
theorem uq:OpR X (compareOp .Eq) rEq:=by
 intro pins s σ H x y v u Q I rx ry h
 obtain⟨hs,q⟩:=h
 cases x with
 | non =>
  cases rx
  cases y with
  | non=>cases ry;exact PySem.EqNone.eq_none_none (iu I q (by simp))
  | bl j=>cases ry;exact PySem.EqNone.eq_none_bool (iu I q (by simp))
  | int j=>obtain⟨t',rfl⟩:=ry;exact PySem.EqNone.eq_none_int (iu I q (by simp))
  | str j=>obtain⟨t',rfl⟩:=ry;exact PySem.EqNone.eq_none_str (iu I q (by simp))
  | _=>exact absurd (show false=true from hs) Bool.false_ne_true
 | bl i =>
  cases rx
  cases y with
  | non=>cases ry;exact PySem.EqNone.eq_bool_none (iu I q (by simp))
  | bl j=>cases ry;exact eq_bool (iu I q alu)
  | str j=>obtain⟨t',rfl⟩:=ry;exact PySem.EqMixed.eq_bool_str (iu I q (by simp))
  | _=>exact absurd (show false=true from hs) Bool.false_ne_true
 | int i =>
  obtain⟨t,rfl⟩:=rx
  cases y with
  | non=>cases ry;exact PySem.EqNone.eq_int_none (iu I q (by simp))
  | int j=>obtain⟨t',rfl⟩:=ry;exact eq_int (iu I q alw)
  | str j=>obtain⟨t',rfl⟩:=ry;exact PySem.EqMixed.eq_int_str (iu I q (by simp))
  | _=>exact absurd (show false=true from hs) Bool.false_ne_true
 | str i =>
  obtain⟨t,rfl⟩:=rx
  cases y with
  | non=>cases ry;exact PySem.EqNone.eq_str_none (iu I q (by simp))
  | bl j=>cases ry;exact PySem.EqMixed.eq_str_bool (iu I q (by simp))
  | int j=>obtain⟨t',rfl⟩:=ry;exact PySem.EqMixed.eq_str_int (iu I q (by simp))
  | str j=>obtain⟨t',rfl⟩:=ry;exact eq_str (iu I q alx)
  | _=>exact absurd (show false=true from hs) Bool.false_ne_true
 | byt i =>
  obtain⟨t,rfl⟩:=rx
  cases y with
  | byt j=>obtain⟨t',rfl⟩:=ry;exact PySem.W.eq_bytes (iu I q alv)
  | _=>exact absurd (show false=true from hs) Bool.false_ne_true
 | _=>cases y<;>exact absurd (show false=true from hs) Bool.false_ne_true
theorem aaq:OpR X (compareOp .NotEq) rNe:=by
 intro pins s σ H x y v u Q I rx ry h
 obtain⟨hs,q⟩:=h
 cases x with
 | non =>
  cases rx
  cases y with
  | non=>cases ry;exact PySem.EqNone.ne_none_none (iu I q (by simp))
  | bl j=>cases ry;exact PySem.EqNone.ne_none_bool (iu I q (by simp))
  | int j=>obtain⟨t',rfl⟩:=ry;exact PySem.EqNone.ne_none_int (iu I q (by simp))
  | str j=>obtain⟨t',rfl⟩:=ry;exact PySem.EqNone.ne_none_str (iu I q (by simp))
  | _=>exact absurd (show false=true from hs) Bool.false_ne_true
 | bl i =>
  cases rx
  cases y with
  | non=>cases ry;exact PySem.EqNone.ne_bool_none (iu I q (by simp))
  | bl j=>cases ry;exact ne_bool (iu I q (congrArg not alu))
  | str j=>obtain⟨t',rfl⟩:=ry;exact PySem.EqMixed.ne_bool_str (iu I q (by simp))
  | _=>exact absurd (show false=true from hs) Bool.false_ne_true
 | int i =>
  obtain⟨t,rfl⟩:=rx
  cases y with
  | non=>cases ry;exact PySem.EqNone.ne_int_none (iu I q (by simp))
  | int j=>obtain⟨t',rfl⟩:=ry;exact ne_int (iu I q (congrArg not alw))
  | str j=>obtain⟨t',rfl⟩:=ry;exact PySem.EqMixed.ne_int_str (iu I q (by simp))
  | _=>exact absurd (show false=true from hs) Bool.false_ne_true
 | str i =>
  obtain⟨t,rfl⟩:=rx
  cases y with
  | non=>cases ry;exact PySem.EqNone.ne_str_none (iu I q (by simp))
  | bl j=>cases ry;exact PySem.EqMixed.ne_str_bool (iu I q (by simp))
  | int j=>obtain⟨t',rfl⟩:=ry;exact PySem.EqMixed.ne_str_int (iu I q (by simp))
  | str j=>obtain⟨t',rfl⟩:=ry;exact ne_str (iu I q (congrArg not alx))
  | _=>exact absurd (show false=true from hs) Bool.false_ne_true
 | byt i =>
  obtain⟨t,rfl⟩:=rx
  cases y with
  | byt j=>obtain⟨t',rfl⟩:=ry;exact PySem.W.ne_bytes (iu I q (congrArg not alv))
  | _=>exact absurd (show false=true from hs) Bool.false_ne_true
 | _=>cases y<;>exact absurd (show false=true from hs) Bool.false_ne_true
theorem zq:OpR X (compareOp .Lt) (rI0 λi j=>.bl (decide (i<j))):=ae8 λ_ _ _ _ _ _ _ q=>lt_int q
theorem abf:OpR X (compareOp .LtE) (rI0 λi j=>.bl (decide (i<=j))):=ae8 λ_ _ _ _ _ _ _ q=>le_int q
theorem azl:OpR X (compareOp .Gt) (rI0 λi j=>.bl (decide (j<i))):=ae8 λ_ _ _ _ _ _ _ q=>gt_int q
theorem xr:OpR X (compareOp .GtE) (rI0 λi j=>.bl (decide (j<=i))):=ae8 λ_ _ _ _ _ _ _ q=>ge_int q
theorem azm:OpR X (compareOp .Is) (λx y H Q=>y=.non/\Q (.bl (decide (x=.non))) H):=by
 intro pins s σ H x y v u Q I rx ry h
 obtain⟨rfl,q⟩:=h
 cases ry
 refine is_none_gen (iu I q ?_)
 cases x<;>first
  | (cases rx;rfl)
  | (obtain⟨t,rfl⟩:=rx;rfl)
theorem gf(b:Expr){op:CmpOp}(h:op≠.In:=by decide)(h2:op≠.NotIn:=by decide):behindInMarks op b=false:=by
 have e1:(op==CmpOp.In)=false:=by cases op<;>first | rfl | exact absurd rfl h
 have e2:(op==CmpOp.NotIn)=false:=by cases op<;>first | rfl | exact absurd rfl h2
 cases b<;>simp[behindInMarks,e1,e2]
theorem tu{op:CmpOp}{r:R2}(ho:OpR X (compareOp op) r)(ha:PE X a ta)(hb:PE X b tb)(hm:behindInMarks op b=false):PE X (.Compare a [op] [b] pos) (tOp r ta tb):=by
 intro pins s σ H Q I h
 exact wpAny_Compare1 (agq ha hb I h λv u s2 x y H2 I2 rx ry q=>ho pins s2 σ H2 x y v u Q I2 rx ry q) hm
def agc(t:TE):TT:=λσ H Q=>t σ H λx H'=>∃k,x=.bl k/\Q k H'
theorem iy{op:CmpOp}{r:R2}(ho:OpR X (compareOp op) r)(ha:PE X a ta)(hb:PE X b tb)(hm:behindInMarks op b=false):PT X (.Compare a [op] [b] pos) (agc (tOp r ta tb)):=by
 intro pins s σ H Q I h
 refine wpAny_isTrue_Compare1 (thn (ha pins s σ H _ I h) λv s1 ⟨x,H1,I1,r1,q1⟩=>thn (hb pins s1 σ H1 _ I1 q1) λu s2 ⟨y,H2,I2,r2,q2⟩ =>
  thn (ho pins s2 σ H2 x y v u _ I2 r1 r2 q2) λc s3 ⟨z,H3,I3,r3,k,e,q3⟩=>?_) hm
 subst e
 cases r3
 exact wpAny_truthy_bool ⟨H3,I3,q3⟩
def ari(r r':R2)(ta tb tc:TE):TE:=λσ H Q=>ta σ H λx H1=>tb σ H1 λy H2=>r x y H2 λz H3=>∃k,z=.bl k /\
 (if k=true then tc σ H3 λw' H4=>r' y w' H4 Q else Q (.bl false) H3)
theorem afb{op op':CmpOp}{r r':R2}(ho:OpR X (compareOp op) r)(ho':OpR X (compareOp op') r')(ha:PE X a ta)(hb:PE X b tb)(hc:PE X c tc)
  (hm:lastMarks [op,op'] [b,c]=false:=by with_unfolding_all rfl):PE X (.Compare a [op,op'] [b,c] pos) (ari r r' ta tb tc):=by
 intro pins s σ H Q I h
 refine Compare_chain (thn (ha pins s σ H _ I h) λv s1 ⟨x,H1,I1,r1,q1⟩=>chain_link (thn (hb pins s1 σ H1 _ I1 q1) λu s2 ⟨y,H2,I2,r2,q2⟩ =>
  thn (ho pins s2 σ H2 x y v u _ I2 r1 r2 q2) λd s3 ⟨z,H3,I3,r3,k,e,q3⟩=>?_)) hm
 subst e
 cases r3
 refine wpAny_truthy_bool ?_
 cases k with
 | false=>exact ite_ff ⟨.bl false,H3,I3,rfl,q3⟩
 | true=>exact ite_tt (chain_last (thn (hc pins s3 σ H3 _ I3 q3) λw' s4 ⟨z',H4,I4,r4,q4⟩=>ho' pins s4 σ H4 y z' u w' Q I4 r2 r4 q4))
def aby(K:PySem.W.Frag)(x:V)(H:Hp)(k:Bool):Prop :=
 match x with
 | .non=>k=false
 | .bl b=>k=b
 | .int i=>k=(i != 0)
 | .str y=>y.length<=sizeLine/\k=((y.length:Int) != 0)
 | .byt y=>y.size<=sizeLine/\k=((y.size:Int) != 0)
 | .ref p=>(∃xs,SqL K H p xs/\k=!xs.isEmpty)\/(∃xs,SqT K H p xs/\k=!xs.isEmpty)\/∃kvs,H p=some (.dK kvs)/\k=!kvs.isEmpty
 | _=>False
theorem avm{κ:Type}{kvs:List (κ×V)}{vs:List (κ×Value)}(r:KV kvs vs):(!vs.isEmpty)=!kvs.isEmpty:=by
 cases r<;>rfl
theorem amx{xs:List V}{its:List Value}(r:Vals xs its):(!its.toArray.isEmpty)=!xs.isEmpty:=by
 cases r<;>simp
theorem ab9:(sizeLine:Nat)<2 ^ 63:=by rw[sizeLine_eq];decide
theorem arv:ass X (λx H Q=>∃k,aby X.K x H k/\Q k H):=by
 intro pins s σ H x v Q I rx h
 obtain⟨k,e,q⟩:=h
 have hl:=ab9
 have hs:sizeLine=16777216:=sizeLine_eq
 cases x with
 | non =>
  cases rx
  have e':k=false:=e
  subst e'
  exact truthy_none ⟨H,I,q⟩
 | bl b =>
  cases rx
  have e':k=b:=e
  subst e'
  exact wpAny_truthy_bool ⟨H,I,q⟩
 | int i =>
  obtain⟨t,rfl⟩:=rx
  have e':k=(i != 0):=e
  subst e'
  exact PySem.P.truthy_int ⟨H,I,q⟩
 | str y =>
  obtain⟨t,rfl⟩:=rx
  obtain⟨hy,e'⟩:y.length<=sizeLine/\k=((y.length:Int) != 0):=e
  subst e'
  exact PySem.P.truthy_str (by omega) ⟨H,I.tok _,q⟩
 | byt y =>
  obtain⟨t,rfl⟩:=rx
  obtain⟨hy,e'⟩:y.size<=sizeLine/\k=((y.size:Int) != 0):=e
  subst e'
  exact PySem.W.truthy_bytes (by omega) ⟨H,I.tok _,q⟩
 | ref p =>
  cases rx
  have e':(∃xs,SqL X.K H p xs/\k=!xs.isEmpty)\/(∃xs,SqT X.K H p xs/\k=!xs.isEmpty)\/∃kvs,H p=some (.dK kvs)/\k=!kvs.isEmpty:=e
  rcases e' with ⟨xs,hx,e'⟩ | ⟨xs,hx,e'⟩ | ⟨kvs,hx,e'⟩
  ·subst e'
   obtain⟨its,r,pl,hz⟩:=I.list hx
   have hlen:=r.length
   exact wpAny_truthy_list pl.isList (by simp only[List.size_toArray];omega) ⟨H,I.tok _,by rw[amx r];exact q⟩
  ·subst e'
   obtain⟨its,r,pl,hz⟩:=I.tuple hx
   have hlen:=r.length
   exact truthy_tuple pl (by simp only[List.size_toArray];omega) ⟨H,I.tok _,by rw[amx r];exact q⟩
  ·subst e'
   obtain⟨hz,hS,vs,r,m⟩:kvs.length<=sizeLine/\(p==sysModules)=false/\∃vs,KV kvs vs/\s.heap.DictOf (jz X.prog X.w) p vs:=I.hok p _ hx
   have hlen:kvs.length=vs.length:=Paired.length r
   exact wpAny_truthy_dict hS m (by omega) ⟨H,I.tok _,by rw[avm r];exact q⟩
 | _=>exact(show False from e).elim
theorem abk(ha:PE X a ta)(he:∀whole,isTrue a X.env whole=(do let v <-whole;standAt a.pos;holding [v] (truthy v))):
  PT X a (λσ H Q=>ta σ H λx H'=>∃k,aby X.K x H' k/\Q k H'):=by
 intro pins s σ H Q I h
 exact isTrue_plain (thn (ha pins s σ H _ I h) λv s1 ⟨x,H1,I1,r1,q1⟩=>arv pins s1 σ H1 x v Q I1 r1 q1) (he _)
theorem acg:OpR X (binaryOp .Add) (λx y H Q=>∃i j,x=.str i/\y=.str j/\i.length+j.length<=sizeLine/\Q (.str (i++j)) H):=by
 intro pins s σ H x y v u Q I rx ry h
 obtain⟨i,j,rfl,rfl,hz,q⟩:=h
 obtain⟨t,rfl⟩:=rx
 obtain⟨t',rfl⟩:=ry
 exact add_str (λt' tk=>⟨.str (i++j),H,I.tok _,⟨_,rfl⟩,q⟩) hz
theorem ab6:OpR X (inplaceOp .Add) (λx y H Q=>∃i j,x=.str i/\y=.str j/\i.length+j.length<=sizeLine/\Q (.str (i++j)) H):=by
 intro pins s σ H x y v u Q I rx ry h
 obtain⟨i,j,rfl,rfl,hz,q⟩:=h
 obtain⟨t,rfl⟩:=rx
 obtain⟨t',rfl⟩:=ry
 exact iadd_str (λt' tk=>⟨.str (i++j),H,I.tok _,⟨_,rfl⟩,q⟩) hz
theorem vals1{x:V}{us:List Value}(r:Vals [x] us):∃u,us=[u]/\RelV x u:=by
 cases r with
 | cons r1 r2=>cases r2;exact⟨_,rfl,r1⟩
theorem vals2{x y:V}{us:List Value}(r:Vals [x,y] us):∃u w',us=[u,w']/\RelV x u/\RelV y w':=by
 cases r with
 | cons r1 r2 =>
  cases r2 with
  | cons r3 r4=>cases r4;exact⟨_,_,rfl,r1,r3⟩
theorem zc:vh X (.builtin "ord") (λxs H Q=>∃x,xs=[.str x]/\x.length=1/\Q (.int (x.cps.getD 0 0:Nat)) H):=by
 intro pins s σ H xs us Q I r h
 obtain⟨x,rfl,hz,q⟩:=h
 obtain⟨u,rfl,t,rfl⟩:=vals1 r
 exact ord_of_one hz ⟨.int _,H,I.tok _,⟨_,rfl⟩,q⟩
def agk(K:PySem.W.Frag)(x:V)(H:Hp)(n:Nat):Prop :=
 match x with
 | .str y=>y.length<=sizeLine/\n=y.length
 | .byt y=>y.size<=sizeLine/\n=y.size
 | .ref p=>(∃xs,SqL K H p xs/\n=xs.length)\/∃xs,SqT K H p xs/\n=xs.length
 | _=>False
theorem ac5:vh X (.builtin "len") (λxs H Q=>∃x n,xs=[x]/\agk X.K x H n/\Q (.int n) H):=by
 intro pins s σ H xs us Q I r h
 obtain⟨x,n,rfl,e,q⟩:=h
 obtain⟨u,rfl,rx⟩:=vals1 r
 have hl:=ab9
 have hs:sizeLine=16777216:=sizeLine_eq
 cases x with
 | str y =>
  obtain⟨t,rfl⟩:=rx
  obtain⟨hy,e'⟩:y.length<=sizeLine/\n=y.length:=e
  subst e'
  exact len_str (by omega) ⟨.int _,H,I.tok _,⟨_,rfl⟩,q⟩
 | byt y =>
  obtain⟨t,rfl⟩:=rx
  obtain⟨hy,e'⟩:y.size<=sizeLine/\n=y.size:=e
  subst e'
  exact PySem.W.len_bytes (by omega) ⟨.int _,H,I.tok _,⟨_,rfl⟩,q⟩
 | ref p =>
  cases rx
  have e':(∃xs,SqL X.K H p xs/\n=xs.length)\/∃xs,SqT X.K H p xs/\n=xs.length:=e
  rcases e' with ⟨xs,hx,e'⟩ | ⟨xs,hx,e'⟩
  ·subst e'
   obtain⟨its,r',pl,hz⟩:=I.list hx
   have hlen:=r'.length
   exact Calls.call_len_list pl.isList (by simp only[List.size_toArray];omega) ⟨.int xs.length,H,I.tok _,⟨_,by simp only[List.size_toArray];rw[hlen]⟩,q⟩
  ·subst e'
   obtain⟨its,r',pl,hz⟩:=I.tuple hx
   have hlen:=r'.length
   exact len_tuple pl (by simp only[List.size_toArray];omega) ⟨.int xs.length,H,I.tok _,⟨_,by simp only[List.size_toArray];rw[hlen]⟩,q⟩
 | _=>exact(show False from e).elim
end
structure aa8(h:Heap)(x dx C:Addr)(mA:Str->Option Value):Prop where
 obj:h.get? x=some (PySem.W.instObj C dx)
 ns:h.Ns1 dx mA
 ne:dx≠x
theorem anb{h:Heap}{dx:Addr}{mA:Str->Option Value}(n:h.Ns1 dx mA):∃od,h.get? dx=some od/\∀name,PySem.W.lookIn name od=some (mA name):=by
 obtain⟨o,es,ep,ho,hd,hk,_,hm⟩:=n
 refine⟨o,ho,λname=>?_⟩
 have e:=hm name
 unfold nsFind findBy at e
 rw[<-Array.find?_toList]at e
 unfold PySem.W.lookIn
 rw[hd]
 dsimp only
 split
 ·rename_i y q
  rw[q]at e
  exact congrArg some e
 ·rename_i q
  rw[q]at e
  have a:es.toList.any (·.refKey)=false:=by
   rw[List.any_eq_false]
   intro y hy
   obtain⟨z,t,hkey⟩:=hk y (Array.mem_toList_iff.mp hy)
   simp[DictEntry.refKey,hkey]
  have a':¬es.toList.any (·.refKey)=true:=by rw[a];exact Bool.false_ne_true
  rw[if_neg a']
  exact congrArg some e
theorem aa8.look{h:Heap}{x dx C:Addr}{mA:Str->Option Value}(I:aa8 h x dx C mA):∃od,PySem.W.InstAt h x (PySem.W.instObj C dx) C (some od)/\∀name,PySem.W.lookIn name od=some (mA name) :=
 let ⟨od,ho,hl⟩:=anb I.ns
 ⟨od,⟨I.obj,rfl,rfl,ho⟩,hl⟩
section
variable{prog:Program}{w:World}{A:Around}{E:Value->Shared->Prop}{s:Shared}{K:PySem.W.Frag}{x dx C f:Addr}{mA:Str->Option Value}{name:Str}{v:Value}
theorem get_map{expr:Bool}{Q:Value->Shared->Prop}(X:K.In s.heap)(I:aa8 s.heap x dx C mA)(hg:PySem.W.plainGet K C name=true)(hh:PySem.W.hasDictIn K C=true)
  (ha:PySem.W.findIn K (.ref C) name=some none) (hv:mA name=some v) (hv':PySem.W.handedIn v=true) (h:Q v {s with toks:=s.toks+1}) :
  wpAny (model prog w) A (getAttr (.ref x) name expr) Q E s:=by
 obtain⟨od,J,hl⟩:=I.look
 exact PySem.W.get_value X J (PySem.W.plainGet_of hg).1 (PySem.W.findObj_own hh ha rfl (by rw[hl,hv])) hv' h
theorem au0{pl:Sem Bool}{Q:Value×List Value->Shared->Prop}(X:K.In s.heap)(I:aa8 s.heap x dx C mA)(hg:PySem.W.plainGet K C name=true)
  (hf:PySem.W.findIn K (.ref C) name=some (some (.ref f))) (ht:PySem.W.isFn K (.ref f)=true) (hv:mA name=none) (h:Q (.ref f,[.ref x]) s) :
  wpAny (model prog w) A (getMethod (.ref x) name pl) Q E s:=by
 obtain⟨od,J,hl⟩:=I.look
 exact PySem.W.method_fn X J (PySem.W.plainGet_of hg).1 (PySem.W.plainGet_of hg).2 hf (beq_iff_eq.mp ht) (by show(PySem.W.lookIn name od).map (·.isSome)=some false;rw[hl,hv];rfl) h
theorem a2o{ns:List Str}{Q:Unit->Shared->Prop}(X:K.In s.heap)(I:aa8 s.heap x dx C mA)
  (hs:PySem.W.findIn K (.ref C) "__setattr__" = some (some (.builtin "object.__setattr__"))) (hp:PySem.W.plainOver K C=true) (ht:PySem.W.takerIn K C name=some none) (hh:PySem.W.hasDictIn K C=true)
  (hw:PySem.Within mA ns) (hsz:ns.length<=sizeLine)
  (h:∀h',aa8 h' x dx C (λy=>if y=name then some v else mA y)->Heap.SameBut dx s.heap h'->Q () {s with heap:=h',toks:=s.toks+2}) :
  wpAny (model prog w) A (setAttr (.ref x) name v) Q E s:=by
 obtain⟨od,J,hl⟩:=I.look
 refine PySem.W.set_plain X J hs (PySem.W.osa_open (s:={s with toks:=s.toks+1}) (r:=none) X J hp ht λb=>?_)
 obtain⟨cd,hc,hd'⟩:=PySem.W.any_some hh
 have hx:s.heap.get? x=some ⟨.ref C,some dx,.plain,#[]⟩:=I.obj
 refine wpAny_bind (wpAny_pure (wpAny_bind (wpAny_bind (wpAny_loadPart hx (wpAny_bind (PySem.W.Looks.here (s:={s with toks:=s.toks+1}) (PySem.W.looks_clsIn X hc) ?_))))))
 rw[hd']
 refine wpAny_pure (a:=some dx) (wpAny_bind (wpAny_pure (wpAny_bind ?_)))
 refine wpAny_nsSet1 (s:={s with toks:=s.toks+1}) I.ns λh' hn2 hs2=>?_
 obtain⟨oD,esD,epD,hoD,hdD,hcD⟩:=hn2.count (PySem.Within.cons name v hw)
 refine wpAny_bind (wpAny_lookBehind hoD (by rw[hdD];exact pastItsLine_dict (Nat.le_trans hcD (by rw[List.length_cons];omega))) ?_)
 exact wpAny_pure (h _ ⟨(hs2.2 _ (Ne.symm I.ne)).trans I.obj,hn2,I.ne⟩ hs2)
theorem awt{R:Result->Shared->Prop}{vs:List Value}{kw:List (Str×Value)}(X:K.In s.heap)(hm:PySem.W.makesIn K C=true)
  (hi:PySem.W.findIn K (.ref C) "__init__" = some (some (.ref f))) (hf:PySem.W.typeIn K (.ref f)=some (.type "function"))
  (h:codeAny (model prog w) (A.under (.builtin "type.__call__" ⟨.ref C::vs,kw⟩)) (.call (.ref f) ⟨.ref (s.heap.objs.size+1)::vs,kw⟩) (PySem.W.InitBack (s.heap.objs.size+1) R)
   {s with heap:=(s.heap.push PySem.W.emptyDict).push (PySem.W.instObj C s.heap.objs.size)}) :
  codeAny (model prog w) A (.call (.ref C) ⟨vs,kw⟩) R s:=by
 obtain⟨hh,g,d,t,os⟩:=s
 exact PySem.W.make_core (PySem.W.makes_of X hm) (PySem.W.looks_findIn X hi) (λself=>PySem.W.bind_fn X self hf) (.inl rfl) h
end
def ik(f:Str)(v:V):List (Str×V)->List (Str×V)
 | []=>[(f,v)]
 | (g,x)::r=>if g=f then(g,v)::r else(g,x)::ik f v r
theorem anc(f g:Str)(v:V):∀fs:List (Str×V),(ik f v fs).lookup g=if g=f then some v else fs.lookup g
 | []=>by
  show List.lookup g [(f,v)]=_
  by_cases h:g=f
  ·have hb:(g==f)=true:=beq_iff_eq.mpr h
   simp only[List.lookup,hb,if_pos h]
  ·have hb:(g==f)=false:=beq_eq_false_iff_ne.mpr h
   simp only[List.lookup,hb,if_neg h]
 | (k,x)::r=>by
  have ih:=anc f g v r
  rw[show ik f v ((k,x)::r)=(if k=f then(k,v)::r else(k,x)::ik f v r) from rfl]
  by_cases hk:k=f
  ·rw[if_pos hk]
   by_cases h:g=k
   ·have hb:(g==k)=true:=beq_iff_eq.mpr h
    simp only[List.lookup,hb,if_pos (h.trans hk)]
   ·have hb:(g==k)=false:=beq_eq_false_iff_ne.mpr h
    simp only[List.lookup,hb,if_neg (λe:g=f=>h (e.trans hk.symm))]
  ·rw[if_neg hk]
   by_cases h:g=k
   ·have hb:(g==k)=true:=beq_iff_eq.mpr h
    simp only[List.lookup,hb,if_neg (λe:g=f=>hk (h.symm.trans e))]
   ·have hb:(g==k)=false:=beq_eq_false_iff_ne.mpr h
    simp only[List.lookup,hb]
    exact ih
theorem ahi(f:Str)(v:V):∀fs:List (Str×V),f∈(ik f v fs).map (·.1)/\∀g,g∈fs.map (·.1)->g∈(ik f v fs).map (·.1)
 | []=>⟨by simp[ik],λg h=>by simp at h⟩
 | (k,x)::r=>by
  obtain⟨i1,i2⟩:=ahi f v r
  rw[show ik f v ((k,x)::r)=(if k=f then(k,v)::r else(k,x)::ik f v r) from rfl]
  by_cases hk:k=f
  ·rw[if_pos hk]
   subst hk
   exact⟨by simp,λg h=>by simpa using h⟩
  ·rw[if_neg hk]
   refine⟨?_,λg h=>?_⟩
   ·rw[List.map_cons]
    exact List.mem_cons_of_mem _ i1
   ·rw[List.map_cons]at h ⊢
    rcases List.mem_cons.mp h with e | e
    ·exact List.mem_cons.mpr (.inl e)
    ·exact List.mem_cons_of_mem _ (i2 g e)
theorem am5(f:Str)(v:V):∀fs:List (Str×V),(ik f v fs).length<=fs.length+1
 | []=>by simp[ik]
 | (k,x)::r=>by
  have ih:=am5 f v r
  rw[show ik f v ((k,x)::r)=(if k=f then(k,v)::r else(k,x)::ik f v r) from rfl]
  by_cases hk:k=f
  ·rw[if_pos hk,List.length_cons,List.length_cons];omega
  ·rw[if_neg hk,List.length_cons,List.length_cons];omega
theorem mz.some_of{v:V}{o:Option Value}(r:mz (some v) o):∃u,o=some u/\RelV v u:=by
 cases o with
 | none=>exact(show False from r).elim
 | some u=>exact⟨u,rfl,r⟩
theorem mz.none_of{o:Option Value}(r:mz none o):o=none:=by
 cases o with
 | none=>rfl
 | some u=>exact(show False from r).elim
theorem amm{v:V}{u:Value}(r:RelV v u):PySem.W.handedIn u=true:=by
 cases v with
 | non=>cases(show u=Value.none from r);rfl
 | bl b=>cases(show u=Value.bool b from r);rfl
 | int i=>obtain⟨t,e⟩:=(show ∃t,u=Value.int i t from r);cases e;rfl
 | str x=>obtain⟨t,e⟩:=(show ∃t,u=Value.str x t from r);cases e;rfl
 | byt b=>obtain⟨t,e⟩:=(show ∃t,u=Value.bytes b t from r);cases e;rfl
 | flt b=>obtain⟨t,e⟩:=(show ∃t,u=Value.float b t from r);cases e;rfl
 | ref a=>cases(show u=Value.ref a from r);rfl
 | ty n=>cases(show u=Value.type n from r);rfl
section
variable{P:Program}{w:World}{H H':Hp}{h h':Heap}{a C dx:Addr}{fs fs':List (Str×V)}
theorem ahc(hok:HOk P w H h)(e:H a=some (.ins C dx fs)):∃mA,aa8 h a dx C mA/\(∀f,mz (fs.lookup f) (mA f))/\PySem.Within mA (fs.map (·.1))/\fs.length<=1000/\H dx=some (.own a):=by
 obtain⟨d,z,ne,ob,mA,n,r,q⟩:=(show gq P w H h a (.ins C dx fs) from hok a _ e)
 exact⟨mA,⟨ob,n,ne⟩,r,q,z,d⟩
end
structure Cls(K:PySem.W.Frag)(C:Addr):Prop where
 pg:PySem.W.plainGet K C Str.empty=true
 hd:PySem.W.hasDictIn K C=true
 po:PySem.W.plainOver K C=true
 sa:PySem.W.findIn K (.ref C) "__setattr__" = some (some (.builtin "object.__setattr__"))
theorem Cls.get{K:PySem.W.Frag}{C:Addr}(c:Cls K C)(f:Str):PySem.W.plainGet K C f=true:=c.pg
def jn(K:PySem.W.Frag)(C:Addr)(f:Str):Prop:=PySem.W.findIn K (.ref C) f=some none
theorem jn.taker{K:PySem.W.Frag}{C:Addr}{f:Str}(n:jn K C f):PySem.W.takerIn K C f=some none:=by
 unfold PySem.W.takerIn
 rw[show PySem.W.findIn K (.ref C) f=some none from n]
 rfl
structure Meth(K:PySem.W.Frag)(C:Addr)(m:Str)(f:Addr):Prop where
 at_:PySem.W.findIn K (.ref C) m=some (some (.ref f))
 fn:PySem.W.isFn K (.ref f)=true
 kp:PySem.W.keepIn K (.ref f)=true
section
variable{X:Cx}{pins:List (Addr×Obj)}{σ:St}{H:Hp}{s:Shared}{a C dx:Addr}{fs:List (Str×V)}{f:Str}{v:V}{A:Around}{E:Value->Shared->Prop}
theorem ami{b:Bool}{Q:Value->Shared->Prop}(I:Inv X pins σ H s)(e:H a=some (.ins C dx fs))(c:Cls X.K C)(n:jn X.K C f)(l:fs.lookup f=some v)
  (h:∀u s',Inv X pins σ H s'->RelV v u->Q u s'):wpAny (model X.prog X.w) A (getAttr (.ref a) f b) Q E s:=by
 obtain⟨mA,O,r,_,_,_⟩:=ahc I.hok e
 obtain⟨u,hu,ru⟩:=mz.some_of (v:=v) (o:=mA f) (by rw[<-l];exact r f)
 exact get_map I.kIn O (c.get f) c.hd n hu (amm ru) (h u _ (I.tok _) ru)
theorem aha{m:Str}{g:Addr}{pl:Sem Bool}{Q:Value×List Value->Shared->Prop}(I:Inv X pins σ H s)(e:H a=some (.ins C dx fs))(c:Cls X.K C)(k:Meth X.K C m g)(l:fs.lookup m=none)
  (h:Q (.ref g,[.ref a]) s):wpAny (model X.prog X.w) A (getMethod (.ref a) m pl) Q E s:=by
 obtain⟨mA,O,r,_,_,_⟩:=ahc I.hok e
 have hn:mA m=none:=mz.none_of (by rw[<-l];exact r m)
 exact au0 I.kIn O (c.get m) k.at_ k.fn hn h
theorem ap7{y:V}{u:Value}{Q:Unit->Shared->Prop}(I:Inv X pins σ H s)(e:H a=some (.ins C dx fs))(c:Cls X.K C)(n:jn X.K C f)(hl:fs.length<1000)(ry:RelV y u)
  (h:∀s',Inv X pins σ (upd H a (.ins C dx (ik f y fs))) s'->Q () s'):wpAny (model X.prog X.w) A (setAttr (.ref a) f u) Q E s:=by
 obtain⟨mA,O,r,wi,_,ho⟩:=ahc I.hok e
 have hz:(fs.map (·.1)).length<=sizeLine:=by rw[List.length_map,sizeLine_eq];omega
 refine a2o I.kIn O c.sa c.po n.taker c.hd wi hz λh' O' sb=>h _ ?_
 have hd:∃o,h'.get? dx=some o:=let ⟨o,_,_,e',_⟩:=O'.ns;⟨o,e'⟩
 refine I.write (x:=a) (e:=dx) (by rw[e];exact True.intro) (.inr ho) (λb q hb z=>(sb.2 b hb).trans z) hd ?_
 refine⟨by rw[ao O.ne];exact ho,?_,O.ne,O'.obj,_,O'.ns,λg=>?_,λg hg=>?_⟩
 ·have:=am5 f y fs;omega
 ·show mz ((ik f y fs).lookup g) (if g=f then some u else mA g)
  rw[anc]
  by_cases q:g=f
  ·rw[if_pos q,if_pos q];exact ry
  ·rw[if_neg q,if_neg q];exact r g
 ·by_cases q:g=f
  ·rw[q];exact(ahi f y fs).1
  ·refine(ahi f y fs).2 g (wi g λz=>hg ?_)
   show(if g=f then some u else mA g)=none
   rw[if_neg q];exact z
theorem Inv.made(I:Inv X pins σ H s):Inv X pins σ (upd (upd H s.heap.objs.size (.own (s.heap.objs.size+1))) (s.heap.objs.size+1) (.ins C s.heap.objs.size []))
  {s with heap:=(s.heap.push PySem.W.emptyDict).push (PySem.W.instObj C s.heap.objs.size)}:=by
 have e1:(s.heap.push PySem.W.emptyDict).get? s.heap.objs.size=some PySem.W.emptyDict:=Heap.get?_push_size s.heap rfl
 have e2:((s.heap.push PySem.W.emptyDict).push (PySem.W.instObj C s.heap.objs.size)).get? (s.heap.objs.size+1)=some (PySem.W.instObj C s.heap.objs.size):=by
  have:=Heap.get?_push_size (s.heap.push PySem.W.emptyDict) (o:=PySem.W.instObj C s.heap.objs.size) rfl
  rwa [Heap.size_push]at this
 have e3:(s.heap.push PySem.W.emptyDict).Ns s.heap.objs.size (λ_=>none):=⟨PySem.W.emptyDict,#[],_,e1,rfl,(λe he=>absurd he (by simp)),λ_=>rfl⟩
 have I1:=I.laid (a:=s.heap.objs.size) (o:=.own (s.heap.objs.size+1)) (h':=s.heap.push PySem.W.emptyDict) (t':=s.toks) (λb u q=>Heap.get?_push_of_some _ q) (Nat.le_refl _) ⟨_,e1⟩
 refine I1.laid (a:=s.heap.objs.size+1) (o:=.ins C s.heap.objs.size []) (t':=s.toks) (λb u q=>Heap.get?_push_of_some _ q) (Nat.le_of_eq (Heap.size_push _ _)) ?_
 have ne:s.heap.objs.size≠s.heap.objs.size+1:=Nat.ne_of_lt (Nat.lt_succ_self _)
 refine⟨by rw[ao ne,ak],Nat.zero_le _,ne,e2,λ_=>none,(Heap.Ns1.of_empty e3).at λo q=>Heap.get?_push_of_some _ q,λ_=>True.intro,λy hy=>absurd rfl hy⟩
theorem ak4{prog:Program}{w:World}{env:Env}{e:Expr}{f:Str}{pos:Pos}{s:Shared}{Q:Value->Shared->Prop}(hb:attributeBase e f env (eval e env)=eval e env)
  (h:wpAny (model prog w) A (eval e env) (λo s₁=>wpAny (model prog w) A (getAttr o f true) Q E s₁) E s):wpAny (model prog w) A (eval (.Attribute e f pos) env) Q E s :=
 Attribute_any_ h (by rw[arm_eval_Attribute,hb])
end
def ad7(K:PySem.W.Frag)(ta:TE)(f:Str):TE:=λσ H Q=>ta σ H λx H1=>∃a C dx fs v,x=.ref a/\H1 a=some (.ins C dx fs)/\Cls K C/\jn K C f/\fs.lookup f=some v/\Q v H1
def a09(K:PySem.W.Frag)(ta tv:TE)(f:Str):TS:=λD σ H=>tv σ H λy H1=>ta σ H1 λx H2=>∃a C dx fs,x=.ref a/\H2 a=some (.ins C dx fs)/\Cls K C/\jn K C f/\fs.length<1000 /\
 D.nx σ (upd H2 a (.ins C dx (ik f y fs)))
def akt(X:Cx)(op:Operator)(rd:V->V->Hp->VK->Prop):Prop :=
 ∀(pins:List (Addr×Obj)) (s:Shared) (σ:St) (H:Hp) (x y:V) (u v:Value) (Q:VK),Inv X pins σ H s->RelV x u->RelV y v->rd x y H Q->wpAny (model X.prog X.w) X.A (inplaceOp op u v) (EP X pins σ Q) X.xe s
def aoz(K:PySem.W.Frag)(ta tv:TE)(rd:V->V->Hp->VK->Prop)(f:Str):TS:=λD σ H=>ta σ H λx H1=>∃a C dx fs v,x=.ref a/\H1 a=some (.ins C dx fs)/\Cls K C/\jn K C f/\fs.lookup f=some v /\
 tv σ H1 λy H2=>rd v y H2 λz H3=>∃dx' fs',H3 a=some (.ins C dx' fs')/\fs'.length<1000/\D.nx σ (upd H3 a (.ins C dx' (ik f z fs')))
section
variable{X:Cx}{o e value:Expr}{f:Str}{pos pos' tpos:Pos}{ta tv:TE}
theorem dw(he:PE X e ta)(hb:attributeBase e f X.env (eval e X.env)=eval e X.env):PE X (.Attribute e f pos) (ad7 X.K ta f):=by
 intro pins s σ H Q I h
 refine ak4 hb (thn (he pins s σ H _ I h) λu s1 ⟨x,H1,I1,rx,a,C,dx,fs,v,ex,ea,c,n,l,q⟩=>?_)
 subst ex
 obtain rfl:u=Value.ref a:=rx
 exact ami I1 ea c n l λu' s2 I2 ru=>⟨v,H1,I2,ru,q⟩
theorem jw(ha:PE X o ta)(hv:PE X value tv)(hs:swapsWith value (some (.Attribute o f pos')) pos.line X.env=pure false):PS X (.Assign [.Attribute o f pos'] value pos) (a09 X.K ta tv f):=by
 intro pins s σ H D I h
 refine plainObj_wpAny_Assign_Attribute (thn (hv pins s σ H _ I h) λu s1 ⟨y,H1,I1,ry,q⟩=>thn (ha pins s1 σ H1 _ I1 q) λov s2 ⟨x,H2,I2,rx,a,C,dx,fs,ex,ea,c,n,l,q2⟩=>?_) hs
 subst ex
 obtain rfl:ov=Value.ref a:=rx
 exact ap7 I2 ea c n l ry λs3 I3=>⟨σ,_,I3,q2⟩
theorem adz{op:Operator}{rd:V->V->Hp->VK->Prop}(ha:PE X o ta)(hv:PE X value tv)(hop:akt X op rd):PS X (.AugAssign (.Attribute o f tpos) op value pos) (aoz X.K ta tv rd f):=by
 intro pins s σ H D I h
 refine wpAny_AugAssign_AttributeAny (thn (ha pins s σ H _ I h) λov s1 ⟨x,H1,I1,rx,a,C,dx,fs,v,ex,ea,c,n,l,q⟩=>?_)
 subst ex
 obtain rfl:ov=Value.ref a:=rx
 refine ami I1 ea c n l λu s2 I2 ru=>thn (hv pins s2 σ H1 _ I2 q) λw3 s3 ⟨y,H2,I3,ry,q3⟩=>thn (hop pins s3 σ H2 v y u w3 _ I3 ru ry q3) λw4 s4 ⟨z,H3,I4,rz,dx',fs',ea',l',q4⟩=>?_
 exact ap7 I4 ea' c n l' rz λs5 I5=>⟨σ,_,I5,q4⟩
def aok:V->V->Hp->VK->Prop:=λx y H Q=>∃i j,x=.int i/\y=.int j/\Q (.int (i+j)) H
theorem adg:akt X .Add aok:=by
 rintro pins s σ H x y u v Q I rx ry ⟨i,j,rfl,rfl,q⟩
 obtain⟨t,rfl⟩:=(show ∃t,u=Value.int i t from rx)
 obtain⟨t',rfl⟩:=(show ∃t',v=Value.int j t' from ry)
 exact PyProof.Rows.iadd_int ⟨.int (i+j),H,I.tok _,⟨_,rfl⟩,q⟩
theorem a5h{pl:Sem Bool}{m:Str}{apos:Pos}{args:List Expr}{pins:List (Addr×Obj)}{s:Shared}{σ:St}{H:Hp}{Q:Value->Shared->Prop}{te:TE}(he:PE X e te)(I:Inv X pins σ H s)
  (h:te σ H λx H1=>∃a C dx fs g,x=.ref a/\H1 a=some (.ins C dx fs)/\Cls X.K C/\Meth X.K C m g/\fs.lookup m=none /\
   ∀s1,Inv X pins σ H1 s1->wpAny (model X.prog X.w) X.A (callWith pos (.ref g) [.ref a] (backTo pos (starEach args X.env)) (backToKw pos (keywordEach [] X.env))) Q X.xe s1)
  (ht:eval (.Call (.Attribute e m apos) args [] pos) X.env=(do
   let ov <-eval e X.env
   standAt apos.atName
   let (f,first) <-holding [ov] (getMethod ov m pl)
   callWith pos f first (backTo pos (starEach args X.env)) (backToKw pos (keywordEach [] X.env)))) :
  wpAny (model X.prog X.w) X.A (eval (.Call (.Attribute e m apos) args [] pos) X.env) Q X.xe s:=by
 refine PySem.W.methodCall_KW (pl:=pl) (thn (he pins s σ H _ I h) λu s1 ⟨x,H1,I1,rx,a,C,dx,fs,g,ex,ea,c,k,l,q⟩=>?_) ht
 subst ex
 obtain rfl:u=Value.ref a:=rx
 exact aha I1 ea c k l (q s1 I1)
end
structure fj(k:Nat)(A:Around):Prop where
 hd:A.handled=none
 dp:A.depth+3*k+5<recursionLimit
 un:A.units+16*k+200<cLine
theorem fj.mono{j k:Nat}{A:Around}(r:fj k A)(h:j<=k):fj j A:=⟨r.hd,by have:=r.dp;omega,by have:=r.un;omega⟩
theorem fj.deeper{k:Nat}{A:Around}(r:fj (k+1) A)(env:Env):fj k (A.deeper env) :=
 ⟨r.hd,by have:=r.dp;show A.depth+1+3*k+5<_;omega,by have:=r.un;show A.units+3+16*k+200<_;omega⟩
theorem awr{A:Around}{C:Addr}{us:List Value}{kw:List (Str×Value)}:(A.under (.builtin "type.__call__" ⟨.ref C::us,kw⟩)).depth=A.depth+1:=by
 first | rfl | simp[Around.under,Code.weight,Code.isCreation,Code.isGuard,Code.isCaller,Code.frames,Code.isFrame,guardIds]
theorem awu{A:Around}{C:Addr}{us:List Value}{kw:List (Str×Value)}:(A.under (.builtin "type.__call__" ⟨.ref C::us,kw⟩)).units=A.units+1:=by
 first | rfl | simp[Around.under,Code.cUnits,Code.frames,Code.isFrame]
theorem fj.make{k:Nat}{A:Around}(r:fj (k+1) A)(C:Addr)(us:List Value)(kw:List (Str×Value)):fj k (A.under (.builtin "type.__call__" ⟨.ref C::us,kw⟩)) :=
 ⟨r.hd,by have:=r.dp;rw[awr];omega,by have:=r.un;rw[awu];omega⟩
theorem fj.depth{k:Nat}{A:Around}(r:fj k A):A.depth<recursionLimit:=by have:=r.dp;omega
theorem fj.units{k:Nat}{A:Around}(r:fj k A):A.units+64<cLine:=by have:=r.un;omega
def jb:TA:=λ_ H Q=>Q [] H
def lu(ta:TE)(tr:TA):TA:=λσ H Q=>ta σ H λx H1=>tr σ H1 λxs H2=>Q (x::xs) H2
section
variable{X:Cx}{e:Expr}{es:List Expr}{te:TE}{t:TA}{pos:Pos}
theorem aq:PA X [] jb:=λ_ _ _ _ H Q I h=>Calls.spliced_nil ⟨[],H,I,.nil,h⟩
theorem aj(ha:PE X e te)(hr:PA X es t)(hs:starEach (e::es) X.env=(false,eval e X.env)::starEach es X.env:=by rfl):PA X (e::es) (lu te t):=by
 intro pos pins s σ H Q I h
 rw[hs]
 show wpAny _ _ (spliced ((false,eval e X.env)::backTo pos (starEach es X.env))) _ _ s
 refine Calls.spliced_cons (thn (ha pins s σ H _ I h) λu s1 ⟨x,H1,I1,r1,q1⟩=>?_)
 exact thn (hr pos pins s1 σ H1 _ I1 q1) λus s2 ⟨xs,H2,I2,r2,q2⟩=>⟨x::xs,H2,I2,.cons r1 r2,q2⟩
def aec(t:TA):TE:=λσ H Q=>t σ H λxs H1=>xs.length<=sizeLine/\∀p,H1 p=none->Q (.ref p) (upd H1 p (.tup xs))
def ad8(t:TA):TE:=λσ H Q=>t σ H λxs H1=>xs.length<=sizeLine/\∀p,H1 p=none->Q (.ref p) (upd H1 p (.lst xs))
theorem ur{x1}(h:PA X es t):PE X (.Tuple es x1 pos) (aec t):=by
 intro pins s σ H Q I hq
 refine wpAny_Tuple_spliced (thn (h pos pins s σ H _ I hq) λus s1 ⟨xs,H1,I1,r,z,q⟩=>⟨by rw[<-r.length];exact z,?_⟩)
 have hf:H1 s1.heap.objs.size=none:=I1.hok.fresh (Nat.le_refl _)
 refine⟨.ref s1.heap.objs.size,upd H1 s1.heap.objs.size (.tup xs),I1.laid (t':=s1.toks) (λb u e=>Heap.get?_push_of_some _ e) (Nat.le_refl _) ?_,rfl,q _ hf⟩
 exact⟨z,us,r,⟨_,Heap.get?_push_size _ rfl,rfl,_,rfl⟩⟩
theorem ju(h:PA X es t):PE X (.List es pos) (ad8 t):=by
 intro pins s σ H Q I hq
 refine wpAny_List_spliced (thn (h pos pins s σ H _ I hq) λus s1 ⟨xs,H1,I1,r,z,q⟩=>⟨by rw[<-r.length];exact z,?_⟩)
 have hf:H1 s1.heap.objs.size=none:=I1.hok.fresh (Nat.le_refl _)
 refine⟨.ref s1.heap.objs.size,upd H1 s1.heap.objs.size (.lst xs),I1.laid (t':=s1.toks) (λb u e=>Heap.get?_push_of_some _ e) (Nat.le_refl _) ?_,rfl,q _ hf⟩
 exact⟨z,us,0,r,Heap.get?_push_size _ rfl⟩
end
abbrev Sp:=List V->Hp->VK->XK->Prop
abbrev CXT:=List Env->Hp->Shared->XK->Value->Shared->Prop
structure ye(P:Program)(w:World)(K:PySem.W.Frag)(mg:Str->Option Value)(base:Heap)(A:Around)(outer:List Env)(s:Shared)(H:Hp):Prop where
 frames:A.frames=some outer
 mod:Mod K mg base
 bs:∀b o,base.get? b=some o->s.heap.get? b=some o/\H b=none
 bsz:base.objs.size<=s.heap.objs.size
 lr:s.heap.FunFrames base outer
 frf:∀b∈frs outer,H b=none
 hok:HOk P w H s.heap
 bare:AllBare s.gens
def CE(outer:List Env)(P:Program)(w:World)(H:Hp)(s:Shared)(Q:VK)(u:Value)(s':Shared):Prop :=
 ∃v H',s'.os=s.os/\AllBare s'.gens/\Un (frs outer) [] H H' s.heap s'.heap/\HOk P w H' s'.heap/\RelV v u/\Q v H'
def CR(CX:CXT)(outer:List Env)(P:Program)(w:World)(H:Hp)(s:Shared)(Q:VK)(E:XK)(r:Result)(s':Shared):Prop :=
 match r with
 | .ok (.ret u)=>CE outer P w H s Q u s'
 | .ok _=>False
 | .error e=>CX outer H s E e s'
structure jm(P:Program)(w:World)(K:PySem.W.Frag)(mg:Str->Option Value)(base:Heap)(CX:CXT)(k:Nat)(f:Addr)(fd:FuncData)(ps:List Str)(sp:Sp):Prop where
 len:∀vs H Q E,sp vs H Q E->vs.length=ps.length
 run:∀(A:Around) (outer:List Env) (s:Shared) (H:Hp) (args:Args) (us:List Value) (vs:List V) (Q:VK) (E:XK),fj k A->ye P w K mg base A outer s H->BindsTo s fd args (ps.zip us)->Vals vs us->sp vs H Q E ->
  codeAny (model P w) A (.call (.ref f) args) (CR CX outer P w H s Q E) s
theorem jm.mono{P:Program}{w:World}{K:PySem.W.Frag}{mg:Str->Option Value}{base:Heap}{CX:CXT}{j k:Nat}{f:Addr}{fd:FuncData}{ps:List Str}{sp:Sp}(F:jm P w K mg base CX j f fd ps sp)(h:j<=k):
  jm P w K mg base CX k f fd ps sp:=⟨F.len,λA outer s H args us vs Q E hr=>F.run A outer s H args us vs Q E (hr.mono h)⟩
theorem ye.make{P:Program}{w:World}{K:PySem.W.Frag}{mg:Str->Option Value}{base:Heap}{A:Around}{outer:List Env}{s:Shared}{H:Hp}(e:ye P w K mg base A outer s H)(C:Addr)(us:List Value)(kw:List (Str×Value)):
  ye P w K mg base (A.under (.builtin "type.__call__" ⟨.ref C::us,kw⟩)) outer s H:=⟨by first | exact e.frames | (simpa[Around.under,Code.envs,Code.isFrame,pushEnvs]using e.frames),e.mod,e.bs,e.bsz,e.lr,e.frf,e.hok,e.bare⟩
section
variable{X:Cx}{pins:List (Addr×Obj)}{σ:St}{H:Hp}{s s':Shared}
theorem Inv.env0(I:Inv X pins σ H s):ye X.prog X.w X.K X.mg X.base X.A X.stack s H :=
 ⟨I.ok.frames,I.ok.mod,I.bs,Nat.le_trans I.ok.bsz I.sz,I.stack,I.akh,I.hok,I.bare⟩
theorem Inv.after{Q:VK}{u:Value}(I:Inv X pins σ H s)(h:CE X.stack X.prog X.w H s Q u s'):EP X pins σ Q u s':=by
 obtain⟨v,H',os,bare,un,hok,r,q⟩:=h
 obtain⟨hh,g,d,t,os'⟩:=s'
 obtain rfl:os'=s.os:=os
 exact⟨v,H',I.call (h':=hh) (g':=g) (d':=d) (t':=t) (ch:=[]) un hok bare (λb z=>absurd z (by simp)),r,q⟩
end
def zx(sp:Sp)(dvs:List V)(E:XK)(t:TA):TE:=λσ H Q=>t σ H λvs H1=>sp (vs++dvs) H1 Q E
def ad9(C:Addr)(m:Str)(sp:Sp)(dvs:List V)(E:XK)(ta:TE)(t:TA):TE:=λσ H Q=>ta σ H λx H1=>∃a dx fs,x=.ref a/\H1 a=some (.ins C dx fs)/\fs.lookup m=none /\
 t σ H1 λvs H2=>sp (x::(vs++dvs)) H2 Q E
def aga(C:Addr)(sp:Sp)(dvs:List V)(E:XK)(t:TA):TE:=λσ H Q=>t σ H λvs H1=>∀x dx,H1 x=none->H1 dx=none->dx≠x ->
 sp (.ref x::(vs++dvs)) (upd (upd H1 dx (.own x)) x (.ins C dx [])) (λv H2=>v=.non/\Q (.ref x) H2) E
def Binds(K:PySem.W.Frag)(fd:FuncData)(ps:List Str)(ds:List Value):Prop :=
 ∀(s:Shared) (us:List Value),K.In s.heap->(us++ds).length=ps.length->BindsTo s fd ⟨us,[]⟩ (ps.zip (us++ds))
theorem Binds.all{K:PySem.W.Frag}{fd:FuncData}{ps:List Str}(h:∀us:List Value,us.length=ps.length->bindArgs fd ⟨us,[]⟩=pure (ps.zip us)):Binds K fd ps []:=λs us _ hl=>by
 rw[List.append_nil]at hl ⊢
 exact .of_eq (h us hl)
def Passes(CX:CXT)(X:Cx)(E:XK):Prop:=∀(pins:List (Addr×Obj)) (σ:St) (H:Hp) (s:Shared) (e:Value) (s':Shared),Inv X pins σ H s->CX X.stack H s E e s'->X.xe e s'
section
variable{X:Cx}{CX:CXT}{k:Nat}{f C:Addr}{fd:FuncData}{ps:List Str}{sp:Sp}{dvs:List V}{ds:List Value}{E:XK}{x m:Str}{p pos apos:Pos}{e o:Expr}{es:List Expr}{ta:TE}{t:TA}
theorem acn{pins:List (Addr×Obj)}{σ:St}{H:Hp}{s:Shared}{Q:VK}{us:List Value}{vs:List V}(F:jm X.prog X.w X.K X.mg X.base CX k f fd ps sp)(hr:fj k X.A)(hb:Binds X.K fd ps ds)(hd:Vals dvs ds)(hx:Passes CX X E)
  (I:Inv X pins σ H s) (r:Vals vs us) (h:sp (vs++dvs) H Q E):wpAny (model X.prog X.w) X.A (call (.ref f) us) (EP X pins σ Q) X.xe s:=by
 have r2:Vals (vs++dvs) (us++ds):=r.append hd
 have hl:(us++ds).length=ps.length:=by rw[<-r2.length];exact F.len _ _ _ _ h
 refine wpAny_call (codeAny_mono (F.run X.A X.stack s H ⟨us,[]⟩ (us++ds) (vs++dvs) Q E hr I.env0 (hb s us I.kIn hl) r2 h) λr s' hq=>?_)
 cases r with
 | error e=>exact hx pins σ H s e s' I hq
 | ok fl =>
  cases fl with
  | ret u=>exact I.after hq
  | next=>exact False.elim hq
  | brk=>exact False.elim hq
  | cont=>exact False.elim hq
theorem azt(F:jm X.prog X.w X.K X.mg X.base CX k f fd ps sp)(hr:fj k X.A)(hg:Gl X x)(hm:X.mg x=some (.ref f))(hk:PySem.W.keepIn X.K (.ref f)=true)(hb:Binds X.K fd ps ds)(hd:Vals dvs ds)(hx:Passes CX X E)
  (ha:PA X (e::es) t) (hdb:(x==("__debug__" : Str))=false:=by decide) (he:starEach (e::es) X.env=(false,eval e X.env)::starEach es X.env:=by rfl) (hpl:(backTo pos (starEach es X.env)).any (·.1)=false:=by rfl) :
  PE X (.Call (.Name x p) (e::es) [] pos) (zx sp dvs E t):=by
 intro pins s σ H Q I h
 refine wpAny_Call_Name_kw (vy I hg hm ?_ hdb)
 refine PySem.W.callWith_K (h₀:=X.base) I.ok.mod.kin hk (thn (ha pos pins s σ H _ I h) λus s1 ⟨vs,H1,I1,r,q⟩=>⟨I1.kIn,?_⟩) he hpl
 exact acn F hr hb hd hx I1 r q
theorem azu(F:jm X.prog X.w X.K X.mg X.base CX k f fd ps sp)(hr:fj k X.A)(hg:Gl X x)(hm:X.mg x=some (.ref f))(hk:PySem.W.keepIn X.K (.ref f)=true)(hb:Binds X.K fd ps ds)(hd:Vals dvs ds)(hx:Passes CX X E)
  (hdb:(x==("__debug__" : Str))=false:=by decide):PE X (.Call (.Name x p) [] [] pos) (zx sp dvs E jb):=by
 intro pins s σ H Q I h
 refine wpAny_Call_Name_kw (vy I hg hm ?_ hdb)
 exact PySem.W.callWith_K0 I.kIn hk (acn (us:=[]) F hr hb hd hx I .nil h)
theorem az2{pl:Sem Bool}(he:PE X o ta)(c:Cls X.K C)(hm:Meth X.K C m f)(F:jm X.prog X.w X.K X.mg X.base CX k f fd ps sp)(hr:fj k X.A)(hb:Binds X.K fd ps ds)(hd:Vals dvs ds)(hx:Passes CX X E)(ha:PA X (e::es) t)
  (hst:starEach (e::es) X.env=(false,eval e X.env)::starEach es X.env:=by rfl) (hpl:(backTo pos (starEach es X.env)).any (·.1)=false:=by rfl)
  (ht:eval (.Call (.Attribute o m apos) (e::es) [] pos) X.env=(do
   let ov <-eval o X.env
   standAt apos.atName
   let (f,first) <-holding [ov] (getMethod ov m pl)
   callWith pos f first (backTo pos (starEach (e::es) X.env)) (backToKw pos (keywordEach [] X.env))):=by rfl) :
  PE X (.Call (.Attribute o m apos) (e::es) [] pos) (ad9 C m sp dvs E ta t):=by
 intro pins s σ H Q I h
 refine PySem.W.methodCall_KW (pl:=pl) (thn (he pins s σ H _ I h) λu s1 ⟨x,H1,I1,rx,a,dx,fs,ex,ea,l,q⟩=>?_) ht
 subst ex
 obtain rfl:u=Value.ref a:=rx
 refine aha I1 ea c hm l ?_
 refine PySem.W.callWith_K (first:=[.ref a]) (h₀:=X.base) I.ok.mod.kin hm.kp (thn (ha pos pins s1 σ H1 _ I1 q) λus s2 ⟨vs,H2,I2,r,q2⟩=>⟨I2.kIn,?_⟩) hst hpl
 exact acn (us:=.ref a::us) (vs:=.ref a::vs) F hr hb hd hx I2 (.cons rfl r) q2
theorem az3{pl:Sem Bool}(he:PE X o ta)(c:Cls X.K C)(hm:Meth X.K C m f)(F:jm X.prog X.w X.K X.mg X.base CX k f fd ps sp)(hr:fj k X.A)(hb:Binds X.K fd ps ds)(hd:Vals dvs ds)(hx:Passes CX X E)
  (ht:eval (.Call (.Attribute o m apos) [] [] pos) X.env=(do
   let ov <-eval o X.env
   standAt apos.atName
   let (f,first) <-holding [ov] (getMethod ov m pl)
   callWith pos f first (backTo pos (starEach [] X.env)) (backToKw pos (keywordEach [] X.env))):=by rfl) :
  PE X (.Call (.Attribute o m apos) [] [] pos) (ad9 C m sp dvs E ta jb):=by
 intro pins s σ H Q I h
 refine PySem.W.methodCall_KW (pl:=pl) (thn (he pins s σ H _ I h) λu s1 ⟨x,H1,I1,rx,a,dx,fs,ex,ea,l,q⟩=>?_) ht
 subst ex
 obtain rfl:u=Value.ref a:=rx
 refine aha I1 ea c hm l ?_
 exact PySem.W.callWith_K0 (first:=[.ref a]) I1.kIn hm.kp (acn (us:=[.ref a]) (vs:=[.ref a]) F hr hb hd hx I1 (.cons rfl .nil) q)
structure Mk(K:PySem.W.Frag)(C f:Addr):Prop where
 makes:PySem.W.makesIn K C=true
 init:PySem.W.findIn K (.ref C) "__init__" = some (some (.ref f))
 fn:PySem.W.isFn K (.ref f)=true
 kp:PySem.W.keepIn K (.ref C)=true
theorem aox{pins:List (Addr×Obj)}{σ:St}{H:Hp}{s:Shared}{Q:VK}{us:List Value}{vs:List V}(M:Mk X.K C f)(F:jm X.prog X.w X.K X.mg X.base CX k f fd ps sp)(hr:fj (k+1) X.A)(hb:Binds X.K fd ps ds)(hd:Vals dvs ds)
  (hx:Passes CX X E) (I:Inv X pins σ H s) (r:Vals vs us)
  (h:∀x dx,H x=none->H dx=none->dx≠x->sp (.ref x::(vs++dvs)) (upd (upd H dx (.own x)) x (.ins C dx [])) (λv H2=>v=.non/\Q (.ref x) H2) E) :
  wpAny (model X.prog X.w) X.A (call (.ref C) us) (EP X pins σ Q) X.xe s:=by
 have hq:=h (s.heap.objs.size+1) s.heap.objs.size (I.hok.fresh (Nat.le_succ _)) (I.hok.fresh (Nat.le_refl _)) (Nat.ne_of_lt (Nat.lt_succ_self _))
 have I2:=Inv.made (C:=C) I
 have r2:Vals (V.ref (s.heap.objs.size+1)::(vs++dvs)) (Value.ref (s.heap.objs.size+1)::(us++ds)):=.cons rfl (r.append hd)
 have hl:(Value.ref (s.heap.objs.size+1)::us++ds).length=ps.length:=by
  have e:=r2.length
  rw[F.len _ _ _ _ hq]at e
  exact e.symm
 refine wpAny_call (awt (f:=f) I.kIn M.makes M.init (beq_iff_eq.mp M.fn) (codeAny_mono (F.run _ X.stack _ _ ⟨Value.ref (s.heap.objs.size+1)::us,[]⟩ (Value.ref (s.heap.objs.size+1)::(us++ds)) _ _ E (hr.make C us [])
  (I2.env0.make C us []) (hb _ (Value.ref (s.heap.objs.size+1)::us) I2.kIn hl) r2 hq) λr s' hq'=>?_))
 cases r with
 | error e=>exact hx pins σ _ _ e s' I2 hq'
 | ok fl =>
  cases fl with
  | ret u =>
   obtain⟨v,H',I3,rv,ev,q3⟩:=I2.after hq'
   subst ev
   exact⟨rv,⟨V.ref (s.heap.objs.size+1),H',I3,rfl,q3⟩⟩
  | next=>exact False.elim hq'
  | brk=>exact False.elim hq'
  | cont=>exact False.elim hq'
theorem az0(M:Mk X.K C f)(F:jm X.prog X.w X.K X.mg X.base CX k f fd ps sp)(hr:fj (k+1) X.A)(hg:Gl X x)(hm:X.mg x=some (.ref C))(hb:Binds X.K fd ps ds)(hd:Vals dvs ds)(hx:Passes CX X E)
  (ha:PA X (e::es) t) (hdb:(x==("__debug__" : Str))=false:=by decide) (he:starEach (e::es) X.env=(false,eval e X.env)::starEach es X.env:=by rfl) (hpl:(backTo pos (starEach es X.env)).any (·.1)=false:=by rfl) :
  PE X (.Call (.Name x p) (e::es) [] pos) (aga C sp dvs E t):=by
 intro pins s σ H Q I h
 refine wpAny_Call_Name_kw (vy I hg hm ?_ hdb)
 refine PySem.W.callWith_K (h₀:=X.base) I.ok.mod.kin M.kp (thn (ha pos pins s σ H _ I h) λus s1 ⟨vs,H1,I1,r,q⟩=>⟨I1.kIn,?_⟩) he hpl
 exact aox M F hr hb hd hx I1 r q
theorem az1(M:Mk X.K C f)(F:jm X.prog X.w X.K X.mg X.base CX k f fd ps sp)(hr:fj (k+1) X.A)(hg:Gl X x)(hm:X.mg x=some (.ref C))(hb:Binds X.K fd ps ds)(hd:Vals dvs ds)(hx:Passes CX X E)
  (hdb:(x==("__debug__" : Str))=false:=by decide):PE X (.Call (.Name x p) [] [] pos) (aga C sp dvs E jb):=by
 intro pins s σ H Q I h
 refine wpAny_Call_Name_kw (vy I hg hm ?_ hdb)
 exact PySem.W.callWith_K0 I.kIn M.kp (aox (us:=[]) M F hr hb hd hx I .nil h)
end
structure cu(N P:List Str)(sc:Scope):Prop where
 kind:sc.kind=.function
 co:sc.isCoroutine=false
 gen:sc.isGenerator=false
 nd:N.Nodup
 pre:N.take P.length=P
 par:∀x∈P,sc.names.lookup x=some .local\/sc.names.lookup x=some .cell
 nofree:∀y∈sc.names,y.2≠.free
theorem alc{kindOf:Str->Option NameKind}{x:Str}:∀{binds:List (Str×Value)}{m:Str->Option Value},(∀v,(x,v)∉binds)->bindL kindOf binds m x=m x
 | [],_,_=>rfl
 | (n,v)::r,m,h=>by
  unfold bindL
  rw[alc λw hw=>h w (List.mem_cons_of_mem _ hw)]
  split
  ·have:x≠n:=by rintro rfl;exact h v List.mem_cons_self
   simp[this]
  ·rfl
theorem ala{kindOf:Str->Option NameKind}{x:Str}:∀{binds:List (Str×Value)}{m:Str->Option Value},(∀v,(x,v)∉binds)->bindC kindOf binds m x=m x
 | [],_,_=>rfl
 | (n,v)::r,m,h=>by
  unfold bindC
  rw[ala λw hw=>h w (List.mem_cons_of_mem _ hw)]
  split
  ·rfl
  ·have:x≠n:=by rintro rfl;exact h v List.mem_cons_self
   simp[this]
theorem alb{kindOf:Str->Option NameKind}{x:Str}{v:Value}:∀{P:List Str}{vs:List Value}{i:Nat}{m:Str->Option Value},P.Nodup->P[i]? = some x->vs[i]? = some v->kindOf x=some .local ->
  bindL kindOf (P.zip vs) m x=some v
 | [],_,_,_,_,h,_,_=>by simp at h
 | _::_,[],_,_,_,_,h,_=>by simp at h
 | p::P,w::vs,0,m,nd,h1,h2,hk=>by
  simp at h1 h2;subst h1;subst h2
  show bindL kindOf ((p,w)::P.zip vs) m p=_
  unfold bindL
  rw[alc λv hv=>(List.nodup_cons.mp nd).1 (List.of_mem_zip hv).1,if_pos hk]
  simp
 | p::P,w::vs,i+1,m,nd,h1,h2,hk=>by
  show bindL kindOf ((p,w)::P.zip vs) m x=_
  unfold bindL
  exact alb (i:=i) (List.nodup_cons.mp nd).2 (by simpa using h1) (by simpa using h2) hk
theorem ak9{kindOf:Str->Option NameKind}{x:Str}{v:Value}:∀{P:List Str}{vs:List Value}{i:Nat}{m:Str->Option Value},P.Nodup->P[i]? = some x->vs[i]? = some v->kindOf x≠some .local ->
  bindC kindOf (P.zip vs) m x=some v
 | [],_,_,_,_,h,_,_=>by simp at h
 | _::_,[],_,_,_,_,h,_=>by simp at h
 | p::P,w::vs,0,m,nd,h1,h2,hk=>by
  simp at h1 h2;subst h1;subst h2
  show bindC kindOf ((p,w)::P.zip vs) m p=_
  unfold bindC
  rw[ala λv hv=>(List.nodup_cons.mp nd).1 (List.of_mem_zip hv).1,if_neg hk]
  simp
 | p::P,w::vs,i+1,m,nd,h1,h2,hk=>by
  show bindC kindOf ((p,w)::P.zip vs) m x=_
  unfold bindC
  exact ak9 (i:=i) (List.nodup_cons.mp nd).2 (by simpa using h1) (by simpa using h2) hk
def start(N:List Str)(vs:List V):St:=vs.map some++List.replicate (N.length-vs.length) none
def jo(CX:CXT)(P:Program)(w:World)(K:PySem.W.Frag)(mg:Str->Option Value)(base:Heap)(N:List Str)(qual:Str)(scope:Scope)(f:Addr)(cd:Value)(A:Around)(outer:List Env)(s:Shared)(H:Hp)(E:XK):Cx where
 prog:=P
 w:=w
 K:=K
 mg:=mg
 base:=base
 A:=A.deeper (envOfC qual scope s.heap.objs.size f cd)
 N:=N
 s_0:=s
 H_0:=H
 env:=envOfC qual scope s.heap.objs.size f cd
 outer:=outer
 stack:=envOfC qual scope s.heap.objs.size f cd::outer
 ex:=[]
 calm:=true
 fn:=λ_=>true
 pn:=[]
 xe:=λe s'=>wpAny (model P w) (A.deeper (envOfC qual scope s.heap.objs.size f cd)) (leaving (envOfC qual scope s.heap.objs.size f cd) e) (λ_ s''=>CX outer H s E e s'') (λe' s''=>CX outer H s E e' s'') s'
theorem alm{sc:Scope}{n:Nat}{x:Str}(h:sc.names.lookup x=some .cell):∃c,(cellsFrom n sc.names []).lookup x=some c:=by
 have q:=PySem.W.cellsFrom_some sc.names n [] (.inl h)
 exact Option.isSome_iff_exists.mp q
theorem amu{CX:CXT}{P:Program}{w:World}{K:PySem.W.Frag}{mg:Str->Option Value}{base:Heap}{N ps:List Str}{qual:Str}{scope:Scope}{f:Addr}{cd:Value}{A:Around}{outer:List Env}{s s1:Shared}{H:Hp}{E:XK}{us:List Value}{vs:List V}
  (S:cu N ps scope) (hd:A.handled=none) (e0:ye P w K mg base A outer s H) (hl:vs.length=ps.length) (r:Vals vs us)
  (x:InCallC s s.heap.objs.size (bindL (envOfC qual scope s.heap.objs.size f cd).kindOf (ps.zip us) λ_=>none) (cellsFrom (s.heap.objs.size+1) scope.names []) (bindC (envOfC qual scope s.heap.objs.size f cd).kindOf (ps.zip us) λ_=>none) s1) :
  Inv (jo CX P w K mg base N qual scope f cd A outer s H E) [] (start N vs) H s1:=by
 have hpl:ps.length<=N.length:=by have:=congrArg List.length S.pre;rw[List.length_take]at this;omega
 obtain⟨h1,tk,rfl,hk⟩:=x.done
 have noA:∀b:Addr,b∉(jo CX P w K mg base N qual scope f cd A outer s H E).ex:=λb z=>absurd (show b∈([]:List Addr) from z) (by simp)
 refine⟨⟨e0.mod,S.kind,rfl,rfl,Nat.le_refl _,λy z c h1 h2=>?_,λy hy=>?_,λy c _ h=>?_,λ_=>hd,Around.frames_deeper e0.frames,.inr ⟨rfl,rfl⟩,λb z=>absurd z (noA b),e0.bs,e0.bsz,λb _ _=>noA b,λb z=>absurd z (noA b),e0.lr,e0.frf⟩,
  rfl,e0.bare,Un.kept hk,⟨_,x.toInCall.ns,λi y v h1 h2 h3=>?_⟩,λy c h=>⟨_,x.cell y c h⟩,e0.hok.fresh (Nat.le_refl _),λy c h=>?_,λp hp=>absurd (show p∈([]:List (Addr×Obj)) from hp) (by simp),e0.hok.kept hk,?_⟩
 ·exact name_of_addr x.apart (PySem.mem_of_lookup h1) (PySem.mem_of_lookup h2)
 ·have hy:scope.names.lookup y=some .cell\/scope.names.lookup y=some .free:=hy
  rcases hy with hy | hy
  ·exact alm hy
  ·exact absurd rfl (S.nofree _ (PySem.mem_of_lookup hy))
 ·exact Nat.le_of_lt (x.above y c (PySem.mem_of_lookup h))
 ·have hi:i<vs.length:=by
   unfold start at h2
   by_cases hi:i<vs.length
   ·exact hi
   ·rw[List.getElem?_append_right (by simpa using hi)]at h2
    rw[List.getElem?_replicate]at h2
    split at h2<;>cases h2
  have ha:vs[i]? = some v:=by
   unfold start at h2
   rw[List.getElem?_append_left (by simpa using hi),List.getElem?_map]at h2
   cases e:vs[i]? with
   | none=>rw[e]at h2;cases h2
   | some a=>rw[e]at h2;cases h2;rfl
  obtain⟨u,hu,rv⟩:=r.get ha
  have hp:ps[i]? = some y:=by
   rw[<-S.pre,List.getElem?_take_of_lt (by omega)];exact h1
  have ndP:ps.Nodup:=by rw[<-S.pre];exact S.nd.sublist (List.take_sublist _ _)
  refine⟨u,rv,?_⟩
  rcases S.par y (List.mem_of_getElem? hp)with k | k
  ·exact .inl ⟨k,alb ndP hp hu k⟩
  ·obtain⟨c,e⟩:=alm (n:=s.heap.objs.size+1) k
   refine .inr ⟨.inl k,c,e,?_⟩
   have q:=x.cell y c e
   rw[ak9 ndP hp hu (by show scope.names.lookup y≠_;rw[k];decide)]at q
   exact q
 ·exact e0.hok.fresh (Nat.le_of_lt (x.above y c (PySem.mem_of_lookup h)))
 ·unfold start
  show _=N.length
  rw[List.length_append,List.length_map,List.length_replicate]
  omega
theorem amd{CX:CXT}{P:Program}{w:World}{K:PySem.W.Frag}{mg:Str->Option Value}{base:Heap}{k:Nat}{f:Addr}{name qual:Str}{params:Arguments}{body:List Stmt}{scope:Scope}{dV kV doc pm cdv ct oc:Value}{an od:Option Addr}
  {osl:Array (Option Value)}{N ps:List Str}{sp:Sp}(lk:K.lookup f=some ⟨oc,od,.func (PySem.W.fnOf name qual params body scope dV kV doc pm an cdv ct),osl⟩) (hcd:PySem.W.codeIn K cdv qual=true) (S:cu N ps scope)
  (len:∀vs H Q E,sp vs H Q E->vs.length=ps.length)
  (hbody:∀(A:Around) (outer:List Env) (s:Shared) (H:Hp) (vs:List V) (Q:VK) (E:XK),fj k (A.deeper (envOfC qual scope s.heap.objs.size f cdv))->sp vs H Q E ->
   ∃t,PSs (jo CX P w K mg base N qual scope f cdv A outer s H E) body t/\t {nx:=λ_ H'=>Q .non H',rt:=Q} (start N vs) H) :
  jm P w K mg base CX (k+1) f (PySem.W.fnOf name qual params body scope dV kV doc pm an cdv ct) ps sp:=by
 refine⟨len,λA outer s H args us vs Q E hr e0 hb r hsp=>?_⟩
 have hl:=len _ _ _ _ hsp
 have KX:K.In s.heap:=e0.mod.kin.keeps λb o e=>(e0.bs b o e).1
 have lim:s.heap.NoLimit:=e0.mod.nolimit.keeps λb o e=>(e0.bs b o e).1
 have hkind:∀y∈ps.zip us,scope.names.lookup y.1=some .local\/(scope.names.lookup y.1=some .cell/\((cellsFrom (s.heap.objs.size+1) scope.names []).lookup y.1).isSome=true):=λ⟨n,v⟩ hy=>by
  rcases S.par n (List.of_mem_zip hy).1 with q | q
  ·exact .inl q
  ·exact .inr ⟨q,PySem.W.cellsFrom_some _ _ _ (.inl q)⟩
 refine codeAny_call_function hr.depth (KX _ _ lk) rfl S.co S.gen rfl (PySem.W.codeRec_of KX hcd) (hb _ _ _ _ ?_)
 refine wpAny_newFunctionEnv_cells S.kind hkind λenv he s1 x=>?_
 subst he
 refine⟨lim.keeps x.toInCall.keep,codeAny_func ?_⟩
 obtain⟨t,ht,hq⟩:=hbody A outer s H vs Q E (hr.deeper _) hsp
 have I:Inv (jo CX P w K mg base N qual scope f cdv A outer s H E) [] (start N vs) H s1:=amu S hr.hd e0 hl r x
 refine wpAny_mono (ht [] s1 (start N vs) H _ I hq) (λfl s' hs=>?_) λe s' hs=>hs
 have fin:∀{σ':St}{H':Hp}{v:V}{u:Value},Inv (jo CX P w K mg base N qual scope f cdv A outer s H E) [] σ' H' s'->RelV v u->Q v H'->CE outer P w H s Q u s' :=
  λ{σ' H' v u} J rv q=>⟨v,H',J.os,J.bare,J.base,J.hok,rv,q⟩
 cases fl with
 | ret u =>
  obtain⟨v,σ',H',J,rv,q⟩:=hs
  exact fin J rv q
 | next =>
  obtain⟨σ',H',J,q⟩:=hs
  exact fin (v:=V.non) (u:=Value.none) J rfl q
 | brk =>
  obtain⟨_,_,_,q⟩:=hs
  exact False.elim q
 | cont =>
  obtain⟨_,_,_,q⟩:=hs
  exact False.elim q
section
variable{X:Cx}{x:Str}{p pos:Pos}{e:Expr}{es:List Expr}{t:TA}{id T:String}{r:List V->Hp->VK->Prop}
def tCB(r:List V->Hp->VK->Prop)(t:TA):TE:=λσ H Q=>t σ H λvs H1=>r vs H1 Q
theorem jg(hc:vh X (.builtin id) r)(hg:Gl X x)(hm:X.mg x=none)(hv:bootBuiltins x=some (.builtin id))(ha:PA X (e::es) t)(hn:x ≠ "__name__" := by decide)(hdb:(x==("__debug__" : Str))=false:=by decide)
  (he:starEach (e::es) X.env=(false,eval e X.env)::starEach es X.env:=by rfl) (hpl:(backTo pos (starEach es X.env)).any (·.1)=false:=by rfl):PE X (.Call (.Name x p) (e::es) [] pos) (tCB r t):=by
 intro pins s σ H Q I h
 refine wpAny_Call_Name_kw (ab8 I hg hm hv ?_ hn hdb)
 exact PyProof.Rows.callWith_builtin1 (thn (ha pos pins s σ H _ I h) λus s1 ⟨vs,H1,I1,r1,q1⟩=>hc pins s1 σ H1 vs us Q I1 r1 q1) he hpl
theorem adp(hc:vh X (.type T) r)(hg:Gl X x)(hm:X.mg x=none)(hv:bootBuiltins x=some (.type T))(ha:PA X (e::es) t)(hn:x ≠ "__name__" := by decide)(hdb:(x==("__debug__" : Str))=false:=by decide)
  (he:starEach (e::es) X.env=(false,eval e X.env)::starEach es X.env:=by rfl) (hpl:(backTo pos (starEach es X.env)).any (·.1)=false:=by rfl):PE X (.Call (.Name x p) (e::es) [] pos) (tCB r t):=by
 intro pins s σ H Q I h
 refine wpAny_Call_Name_kw (ab8 I hg hm hv ?_ hn hdb)
 exact PyProof.Rows.callWith_type1 (thn (ha pos pins s σ H _ I h) λus s1 ⟨vs,H1,I1,r1,q1⟩=>hc pins s1 σ H1 vs us Q I1 r1 q1) he hpl
end
end L2
namespace HT
open PySem PyProof.Rows
def lexLt:List Int->List Int->Bool
 | [],[]=>false
 | [],_::_=>true
 | _::_,[]=>false
 | x::xs,y::ys=>if x=y then lexLt xs ys else decide (x<y)
theorem awh(x y:Int)(xs ys:List Int):lexLt (x::xs) (y::ys)=if x=y then lexLt xs ys else decide (x<y):=rfl
theorem awk:lexLt [] []=false:=rfl
theorem awj(y:Int)(ys:List Int):lexLt [] (y::ys)=true:=rfl
theorem awi(x:Int)(xs:List Int):lexLt (x::xs) []=false:=rfl
theorem aun(A:Around)(s:Shared)(a:Int)(t:Tok)(c:Int)(u:Tok):∃e,SeqAt.EqAt A s (.int a t) (.int c u) e/\(e=true↔a=c) :=
 ⟨(a==c),SeqAt.EqAt.int_int a t c u,by simp⟩
theorem a02(A:Around)(s:Shared)(a:Int)(t:Tok)(c:Int)(u:Tok)(prog:Program)(w:World)(E:Value->Shared->Prop)(Q:Value->Shared->Prop)(h:Q (.bool (decide (a<c))) s):
  wpAny (model prog w) A (richCompare .Lt (.int a t) (.int c u)) Q E s :=
 (PyProof.Rows.lt_int h:wpAny (model prog w) A (compareOp .Lt (.int a t) (.int c u)) Q E s)
section
open PySem.SeqAt
open PySem.AutoSeq1 (wpAny_loadPart')
open PySem.MeetsSeq PySem.MeetsSeq2 PySem.MeetsSeq3
theorem a4e(l b:Addr)(items items2:Array Value)(n n2:Nat)(dd dd2:Option Addr)(sl sl2:Array (Option Value))(ns ms:List Int)(hi:IntsAre items.toList ns)(hj:IntsAre items2.toList ms):
  Meets (Builtin.«tuple.__lt__» ⟨[.ref l,.ref b],[]⟩)
   (λ_ R s=>s.heap.get? l=some {cls:=.type "tuple",dict:=dd,data:=.seq items n,slots:=sl}/\s.heap.get? b=some {cls:=.type "tuple",dict:=dd2,data:=.seq items2 n2,slots:=sl2} /\
    R (.ok (.ret (.bool (lexLt ns ms)))) s) :=
 .of_wp λprog w A R s h=>by
  obtain⟨hp,g,d,tk,os⟩:=s;obtain⟨hl,hb,h⟩:=h
  have f2:=AutoSeq1.sub_tuple_tuple
  have z1:items.size=ns.length:=by rw[<-hi.length];simp
  have z2:items2.size=ms.length:=by rw[<-hj.length];simp
  wp_walk using wpAny_loadPart' hl,wpAny_loadPart' hb,wpAny_forIn_list _ (λrest b s'=>b.1=none/\s'=⟨hp,g,d,tk,os⟩/\∃(vs ws:List Value) (ns' ms':List Int),rest=vs.zip ws /\
   IntsAre vs ns'/\IntsAre ws ms'/\ns'.length+items2.size=ms'.length+items.size/\R (.ok (.ret (.bool (lexLt ns' ms')))) ⟨hp,g,d,tk,os⟩) _
  case turn =>
   rintro⟨y,x⟩ rest b s' ⟨hb',rfl,vs,ws,ns',ms',hz,hvi,hwi,hlen,hR⟩
   cases hvi with
   | nil=>rw[List.zip_nil_left]at hz;cases hz
   | cons a t hvi' =>
    cases hwi with
    | nil=>rw[List.zip_nil_right]at hz;cases hz
    | cons c u hwi' =>
     rw[List.zip_cons_cons]at hz
     injection hz with hyx hrest
     injection hyx with hy hx
     subst hy hx
     rw[awh]at hR
     simp only[List.length_cons]at hlen
     obtain⟨e,he,hiff⟩:=aun A.in1 ⟨hp,g,d,tk,os⟩ a t c u
     refine wpAny_bind (he prog w _ _ ?_)
     cases e with
     | true =>
      rw[if_pos (hiff.mp rfl)]at hR
      wp_walk
      exact⟨rfl,rfl,_,_,_,_,hrest,hvi',hwi',by omega,hR⟩
     | false =>
      rw[if_neg (λq=>absurd (hiff.mpr q) Bool.false_ne_true)]at hR
      have hri:=a02 A.in1 ⟨hp,g,d,tk,os⟩ a t c u prog w
      wp_walk using hri
      exact⟨_,rfl,by simpa using hR⟩
  case fin =>
   rintro⟨b1,b2⟩ s' ⟨hb',rfl,vs,ws,ns',ms',hz,hvi,hwi,hlen,hR⟩
   simp only at hb'
   subst hb'
   have hv:lexLt ns' ms'=decide (items.size<items2.size):=by
    cases hvi with
    | nil =>
     cases hwi with
     | nil =>
      simp only[List.length_nil]at hlen
      rw[awk]
      exact(decide_eq_false (by omega)).symm
     | cons c u hw =>
      simp only[List.length_nil,List.length_cons]at hlen
      rw[awj]
      exact(decide_eq_true (by omega)).symm
    | cons a t hv =>
     cases hwi with
     | nil =>
      simp only[List.length_nil,List.length_cons]at hlen
      rw[awi]
      exact(decide_eq_false (by omega)).symm
     | cons c u hw =>
      rw[List.zip_cons_cons]at hz
      cases hz
   rw[hv]at hR
   wp_walk
   exact⟨_,rfl,by simpa[Builtin.Tuple.tupleCompareSizes]using hR⟩
  case h =>
   exact⟨rfl,rfl,items.toList,items2.toList,ns,ms,rfl,hi,hj,by omega,h⟩
end
section
variable{prog:Program}{w:World}{A:Around}{E:Value->Shared->Prop}{s:Shared}
theorem awq{l b:Addr}{items items2:Array Value}{ns ms:List Int}{Q:Value->Shared->Prop}(hl:IsTup s.heap l items)(hb:IsTup s.heap b items2)(hi:IntsAre items.toList ns)(hj:IntsAre items2.toList ms)
  (hu:A.units<cLine) (h:Q (.bool (lexLt ns ms)) s):wpAny (model prog w) A (compareOp .Lt (.ref l) (.ref b)) Q E s:=by
 obtain⟨⟨cls,dd,data,sl⟩,ho,hc,n,hd⟩:=id hl
 obtain⟨⟨cls2,dd2,data2,sl2⟩,ho2,hc2,n2,hd2⟩:=id hb
 simp only at hc hd hc2 hd2
 subst hc hd hc2 hd2
 exact richCompare_meets_room (op:=.Lt) ⟨_,ho,rfl⟩ ⟨_,ho2,rfl⟩ PySem.F.slot_tuple_lt PySem.F.entry_tuple_lt (PySem.F.args_tuple_lt_2 _ _) (a4e l b items items2 n n2 dd dd2 sl sl2 ns ms hi hj)
  ⟨ho,ho2,show Value.bool (lexLt ns ms)≠Value.notImplemented/\Q (.bool (lexLt ns ms)) s from⟨(λx=>nomatch x),h⟩⟩ hu
def sIx(n d:Nat):Option Int->Nat
 | none=>d
 | some v=>if v<0 then(v+(n:Int)).toNat else min v.toNat n
theorem a1a(n d:Nat):sIx n d none=d:=rfl
theorem ad0(n d k:Nat):sIx n d (some (k:Int))=min k n:=by
 show(if (k:Int)<0 then((k:Int)+(n:Int)).toNat else min (k:Int).toNat n)=min k n
 rw[if_neg (by omega),Int.toNat_natCast]
end
end HT
namespace L2
open PySem PySem.Spec PyProof.Rows
abbrev TO:=St->Hp->(Option Int->Hp->Prop)->Prop
def PO(X:Cx)(e:Option Expr)(t:TO):Prop :=
 ∀(pins:List (Addr×Obj)) (s:Shared) (σ:St) (H:Hp) (Q:Option Int->Hp->Prop),Inv X pins σ H s->t σ H Q ->
  wpAny (model X.prog X.w) X.A (evalPart e X.env) (λu s'=>∃o H',Inv X pins σ H' s'/\IsPart u o/\Q o H') X.xe s
def a3t:TO:=λ_ H Q=>Q none H
def a3v(t:TE):TO:=λσ H Q=>t σ H λx H1=>∃i,x=.int i/\Q (some i) H1
section
variable{X:Cx}{e:Expr}{te:TE}{lo hi:Option Expr}{tl th:TO}{pos p2:Pos}
theorem aie:PO X none a3t:=by
 intro pins s σ H Q I h
 rw[evalPart_none]
 exact wpAny_pure ⟨none,H,I,.none,h⟩
theorem abj(h:PE X e te):PO X (some e) (a3v te):=by
 intro pins s σ H Q I hw
 rw[evalPart_some]
 refine thn (h pins s σ H _ I hw) λu s1 ⟨x,H1,I1,r1,q1⟩=>?_
 obtain⟨i,rfl,q⟩:=q1
 obtain⟨t,rfl⟩:=r1
 exact⟨some i,H1,I1,.int i t,q⟩
def SlR(X:Cx)(r:V->Option Int->Option Int->Hp->VK->Prop):Prop :=
 ∀(pins:List (Addr×Obj)) (s:Shared) (σ:St) (H:Hp) (x:V) (v vl vu:Value) (lo hi:Option Int) (sl:Addr) (Q:VK),Inv X pins σ H s->RelV x v->s.heap.IsSliceOf sl vl vu .none->IsPart vl lo->IsPart vu hi->r x lo hi H Q ->
  ∃T id,typeLookup (.type T) "__getitem__" = pure (some (.builtin id))/\s.TypeIs v T/\wpAny (model X.prog X.w) X.A (getItem v (.ref sl)) (EP X pins σ Q) X.xe s
def tSl(r:V->Option Int->Option Int->Hp->VK->Prop)(te:TE)(tl th:TO):TE:=λσ H Q=>te σ H λx H1=>tl σ H1 λl H2=>th σ H2 λu H3=>r x l u H3 Q
theorem adu{r:V->Option Int->Option Int->Hp->VK->Prop}(hr:SlR X r)(he:PE X e te)(hl:PO X lo tl)(hu:PO X hi th):PE X (.Subscript e (.Slice lo hi none p2) pos) (tSl r te tl th):=by
 intro pins s σ H Q I h
 refine Subscript_ (thn (he pins s σ H _ I h) λv s1 ⟨x,H1,I1,r1,q1⟩=>?_)
 refine wpAny_Slice (thn (hl pins s1 σ H1 _ I1 q1) λvl s2 ⟨l,H2,I2,pl,q2⟩=>thn (hu pins s2 σ H2 _ I2 q2) λvu s3 ⟨u,H3,I3,pu,q3⟩=>?_)
 rw[evalPart_none]
 refine wpAny_pure ?_
 have I4:Inv X pins σ H3 {s3 with heap:=s3.heap.push {cls:=.type "slice",data:=.fields #[vl,vu,.none]}}:=I3.kept (t':=s3.toks) λb ob q=>Heap.get?_push_of_some _ q
 obtain⟨T,id,hT,ht,hg⟩:=hr pins {s3 with heap:=s3.heap.push {cls:=.type "slice",data:=.fields #[vl,vu,.none]}} σ H3 x v vl vu l u s3.heap.objs.size Q I4 r1 (Heap.IsSliceOf.new ..) pl pu q3
 show wpAny (model X.prog X.w) X.A (subscriptTail e (.Slice lo hi none p2) v (.ref s3.heap.objs.size)) (EP X pins σ Q) X.xe {s3 with heap:=s3.heap.push {cls:=.type "slice",data:=.fields #[vl,vu,.none]}}
 exact tail_any (ops:=[.ref s3.heap.objs.size,v]) ht hT hg (by with_unfolding_all rfl)
def m6(xs:List V)(lo hi:Option Int):List V:=(xs.drop (HT.sIx xs.length 0 lo)).take (HT.sIx xs.length xs.length hi-HT.sIx xs.length 0 lo)
theorem at3(xs:List V)(lo hi:Option Int):(m6 xs lo hi).length<=xs.length:=by
 unfold m6
 rw[List.length_take,List.length_drop]
 omega
end
def ixN(n:Nat)(i:Int):Option Nat:=if 0<=i then(if i<n then some i.toNat else none)else if -(n:Int)<=i then some (i+n).toNat else none
def atI{α:Type}(xs:List α)(i:Int):Option α:=(ixN xs.length i).bind λj=>xs[j]?
theorem avq{n:Nat}{i:Int}{j:Nat}(h:ixN n i=some j):seqIndex? i n=some j/\j<n/\-(n:Int)<=i/\i<n:=by
 unfold ixN at h
 by_cases h0:0<=i
 ·rw[if_pos h0]at h
  by_cases h1:i<n
  ·rw[if_pos h1]at h
   have e:i.toNat=j:=Option.some.inj h
   exact⟨by rw[seqIndex_of h0 h1,e],by omega,by omega,h1⟩
  ·rw[if_neg h1]at h;cases h
 ·rw[if_neg h0]at h
  by_cases h1:-(n:Int)<=i
  ·rw[if_pos h1]at h
   have e:(i+n).toNat=j:=Option.some.inj h
   exact⟨by rw[seqIndex_neg (by omega) h1,e],by omega,h1,by omega⟩
  ·rw[if_neg h1]at h;cases h
theorem ago{α:Type}{xs:List α}{i:Int}{v:α}(h:atI xs i=some v):∃j,seqIndex? i xs.length=some j/\xs[j]? = some v/\j<xs.length/\-(xs.length:Int)<=i/\i<xs.length:=by
 unfold atI at h
 cases e:ixN xs.length i with
 | none=>rw[e]at h;cases h
 | some j =>
  rw[e]at h
  obtain⟨h1,h2,h3,h4⟩:=avq e
  exact⟨j,h1,h,h2,h3,h4⟩
theorem gr{α:Type}{xs:List α}{j:Nat}{v:α}(h:xs[j]? = some v):atI xs (j:Int)=some v:=by
 have hj:j<xs.length:=(List.getElem?_eq_some_iff.mp h).1
 have e:ixN xs.length (j:Int)=some j:=by
  unfold ixN
  rw[if_pos (by omega),if_pos (by omega)];simp
 unfold atI;rw[e];exact h
def aso(b:Expr):Prop:=∀o i,subscripted b false o i=operate [o,i] (getItem o i)
def IxR(X:Cx)(r:R2):Prop :=
 ∀(value slice:Expr) (pins:List (Addr×Obj)) (s:Shared) (σ:St) (H:Hp) (x y:V) (v u:Value) (Q:VK),Inv X pins σ H s->RelV x v->RelV y u->r x y H Q ->
  subscripted slice false v u=operate [v,u] (getItem v u)->wpAny (model X.prog X.w) X.A (subscriptTail value slice v u) (EP X pins σ Q) X.xe s
def MtR(X:Cx)(id:String)(r:V->List V->Hp->VK->Prop):Prop :=
 ∀(pins:List (Addr×Obj)) (s:Shared) (σ:St) (H:Hp) (x:V) (xs:List V) (v:Value) (us:List Value) (Q:VK),Inv X pins σ H s->RelV x v->Vals xs us->r x xs H Q ->
  wpAny (model X.prog X.w) X.A (call (.builtin id) (v::us)) (EP X pins σ Q) X.xe s
section
variable{X:Cx}{a b:Expr}{ta tb:TE}{pos:Pos}
theorem IxR.or{r r':R2}(h:IxR X r)(h':IxR X r'):IxR X (λx y H Q=>r x y H Q\/r' x y H Q):=by
 intro value slice pins s σ H x y v u Q I rx ry q hs
 rcases q with q | q
 ·exact h value slice pins s σ H x y v u Q I rx ry q hs
 ·exact h' value slice pins s σ H x y v u Q I rx ry q hs
theorem gk{r:R2}(hr:IxR X r)(ha:PE X a ta)(hb:PE X b tb)(hs:aso b):PE X (.Subscript a b pos) (tOp r ta tb):=by
 intro pins s σ H Q I h
 exact Subscript_ (agq ha hb I h λv u s2 x y H2 I2 rx ry q=>hr a b pins s2 σ H2 x y v u Q I2 rx ry q (hs _ _))
def aom(K:PySem.W.Frag):R2:=λx y H Q=>∃p xs i v,x=.ref p/\y=.int i/\SqL K H p xs/\atI xs i=some v/\Q v H
def aih(K:PySem.W.Frag):R2:=λx y H Q=>∃p xs i v,x=.ref p/\y=.int i/\SqT K H p xs/\atI xs i=some v/\Q v H
def aon:R2:=λx y H Q=>∃z i c,x=.str z/\y=.int i/\z.length<=sizeLine/\atI z.cps.toList i=some c/\Q (.str ⟨#[c]⟩) H
theorem m8:IxR X (aom X.K):=by
 intro value slice pins s σ H x y v u Q I rx ry h hs
 obtain⟨p,xs,i,z,rfl,rfl,hq,he,q⟩:=h
 cases rx
 obtain⟨t,rfl⟩:=ry
 obtain⟨its,r,pl,hz⟩:=I.list hq
 obtain⟨j,h1,h2,h3,h4,h5⟩:=ago he
 obtain⟨w,ew,rw'⟩:=r.get h2
 have hl:=r.length
 have hn:=ab9
 have fin:EP X pins σ Q w s:=⟨z,H,I,rw',q⟩
 by_cases h0:0<=i
 ·have hj:i.toNat=j:=by
   rw[seqIndex_of h0 h5]at h1
   exact Option.some.inj h1
  exact item_listR pl.isList h0 (by omega) (by rw[hj];simpa using ew) fin hs
 ·have hj:(i+(its.toArray.size:Int)).toNat=j:=by
   rw[seqIndex_neg (by omega) h4]at h1
   rw[List.size_toArray,<-hl]
   exact Option.some.inj h1
  exact subscriptTail_builtinR (x:=w) pl.isList.typeIs slot_list_getitem.lookup
   (wpAny_getItem_list_neg (Q:=λr s'=>r=w/\EP X pins σ Q r s') pl.isList (by omega) (by rw[List.size_toArray]<;>omega) (by omega) (by rw[hj];simpa using ew) ⟨rfl,fin⟩) hs
theorem o7:IxR X (aih X.K):=by
 intro value slice pins s σ H x y v u Q I rx ry h hs
 obtain⟨p,xs,i,z,rfl,rfl,hq,he,q⟩:=h
 cases rx
 obtain⟨t,rfl⟩:=ry
 obtain⟨its,r,pl,hz⟩:=I.tuple hq
 obtain⟨j,h1,h2,h3,h4,h5⟩:=ago he
 obtain⟨w,ew,rw'⟩:=r.get h2
 have hl:=r.length
 have hn:=ab9
 have fin:EP X pins σ Q w s:=⟨z,H,I,rw',q⟩
 exact subscriptTail_builtinR (x:=w) pl.typeIs slot_tuple_getitem.lookup
  (getItem_tuple (j:=j) (Q:=λr s'=>r=w/\EP X pins σ Q r s') pl (by omega) (by omega) (by rw[List.size_toArray,<-hl];exact h1) (by simpa using ew) ⟨rfl,fin⟩) hs
theorem ahh:IxR X aon:=by
 intro value slice pins s σ H x y v u Q I rx ry h hs
 obtain⟨z,i,c,rfl,rfl,hz,he,q⟩:=h
 obtain⟨t,rfl⟩:=rx
 obtain⟨t',rfl⟩:=ry
 obtain⟨j,h1,h2,h3,h4,h5⟩:=ago he
 have hl:z.cps.toList.length=z.length:=by simp[Str.length]
 rw[hl]at h1 h4 h5
 have hn:=ab9
 exact tail_any (typeIs_str s z t) slot_str_getitem.lookup (getItem_str (c:=c) (by
  have e1:decide (i < -(2 ^ 63:Int))=false:=decide_eq_false (by omega)
  have e2:decide (i>=2 ^ 63)=false:=decide_eq_false (by omega)
  rw[e1,e2,Bool.or_false]) (by rw[h1];simpa using h2) ⟨.str ⟨#[c]⟩,H,I.tok _,⟨_,rfl⟩,q⟩) hs
def rIx(K:PySem.W.Frag):R2:=λx y H Q=>aom K x y H Q\/aih K x y H Q\/aon x y H Q
theorem ahg:IxR X (rIx X.K):=m8.or (o7.or ahh)
theorem a2v(lo hi:Option Int)(n:Nat):(sliceBounds lo hi none n).1=((HT.sIx n 0 lo:Nat):Int)/\(sliceBounds lo hi none n).2.1=((HT.sIx n n hi:Nat):Int)/\(sliceBounds lo hi none n).2.2=1:=by
 refine⟨?_,?_,rfl⟩
 ·cases lo with
  | none=>simp[sliceBounds,HT.sIx]
  | some i =>
   simp only[sliceBounds,HT.sIx,Option.getD_none,show(1:Int)>0 by decide,if_true]
   by_cases h:i<0
   ·simp only[h,if_true]<;>omega
   ·simp only[h,if_false]<;>omega
 ·cases hi with
  | none=>simp[sliceBounds,HT.sIx]
  | some i =>
   simp only[sliceBounds,HT.sIx,Option.getD_none,show(1:Int)>0 by decide,if_true]
   by_cases h:i<0
   ·simp only[h,if_true]<;>omega
   ·simp only[h,if_false]<;>omega
theorem a2u(its:List Value)(lo hi:Option Int):slicePick its.toArray lo hi none=((its.drop (HT.sIx its.length 0 lo)).take (HT.sIx its.length its.length hi-HT.sIx its.length 0 lo)).toArray:=by
 obtain⟨h1,h2,h3⟩:=a2v lo hi its.toArray.size
 unfold slicePick
 rw[h1,h2,h3]
 simp only[sliceRange_one,pick_run,List.size_toArray]<;>rfl
def a0v(K:PySem.W.Frag):V->Option Int->Option Int->Hp->VK->Prop:=λx lo hi H Q=>∃a xs,x=.ref a/\SqL K H a xs/\∀p,H p=none->Q (.ref p) (upd H p (.lst (m6 xs lo hi)))
theorem ad2:SlR X (a0v X.K):=by
 intro pins s σ H x v vl vu lo hi sl Q I rx hs pl pu h
 obtain⟨a,xs,rfl,hx,q⟩:=h
 cases rx
 obtain⟨its,r,ht,hz⟩:=I.list hx
 have hlen:=r.length
 refine⟨"list",_,slot_list_getitem.lookup,ht.isList.typeIs,?_⟩
 refine wpAny_getItem_list_slice ht.isList hs pl pu .none (by simp) ?_ (by rw[List.size_toArray]<;>omega)
 rw[a2u,<-hlen]
 refine⟨.ref s.heap.objs.size,_,I.laid (t':=s.toks) (o:=.lst (m6 xs lo hi)) (λb ob q=>Heap.get?_push_of_some _ q) (Nat.le_refl _) ?_,rfl,q _ (I.hok.fresh (Nat.le_refl _))⟩
 exact⟨Nat.le_trans (at3 xs lo hi) hz,_,0,(r.drop (HT.sIx xs.length 0 lo)).take (HT.sIx xs.length xs.length hi-HT.sIx xs.length 0 lo),Heap.get?_push_size _ rfl⟩
theorem xn:vh X (.builtin "len") (λxs H Q=>∃p ys,xs=[.ref p]/\(SqL X.K H p ys\/SqT X.K H p ys)/\Q (.int ys.length) H):=by
 intro pins s σ H xs us Q I r h
 obtain⟨p,ys,rfl,hq,q⟩:=h
 obtain⟨u,rfl,rx⟩:=vals1 r
 cases rx
 have hn:=ab9
 rcases hq with hq | hq
 ·obtain⟨its,r',pl,hz⟩:=I.list hq
  have hlen:=r'.length
  exact Calls.call_len_list pl.isList (by simp only[List.size_toArray]<;>omega) ⟨.int ys.length,H,I.tok _,⟨s.toks+1,by rw[List.size_toArray,hlen]⟩,q⟩
 ·obtain⟨its,r',pl,hz⟩:=I.tuple hq
  have hlen:=r'.length
  exact len_tuple pl (by simp only[List.size_toArray]<;>omega) ⟨.int ys.length,H,I.tok _,⟨s.toks+1,by rw[List.size_toArray,hlen]⟩,q⟩
def tyV(K:PySem.W.Frag)(T:String)(x:V)(H:Hp):Prop:=match x with
 | .str _=>T = "str"
 | .int _=>T = "int"
 | .ref p=>(T = "list" /\ ∃xs,SqL K H p xs)\/(T = "tuple" /\ ∃o,K.lookup p=some o/\o.cls=.type "tuple" /\ o.dict=none) \/
   (T = "dict" /\ ((∃kvs,H p=some (.dK kvs))\/∃kvs,H p=some (.dT kvs)))\/(T = "set" /\ ∃S n,H p=some (.set S n))
 | _=>False
theorem a4q{pins:List (Addr×Obj)}{σ:St}{H:Hp}{s:Shared}{T:String}{x:V}{v:Value}(I:Inv X pins σ H s)(r:RelV x v)(ty:tyV X.K T x H):
  s.TypeIs v T/\∀a,v=.ref a->∃ob,s.heap.get? a=some ob/\ob.dict=none:=by
 cases x with
 | str z =>
  obtain⟨t,rfl⟩:=r
  cases(show T = "str" from ty)
  exact⟨typeIs_str s z t,λ_ e=>nomatch e⟩
 | int i =>
  obtain⟨t,rfl⟩:=r
  cases(show T = "int" from ty)
  exact⟨typeIs_int s i t,λ_ e=>nomatch e⟩
 | ref p =>
  cases r
  rcases ty with ⟨rfl,xs,hq⟩ | ⟨rfl,o,hk,hc,hd⟩ | ⟨rfl,hk⟩ | ⟨rfl,S,n,hk⟩
  ·obtain⟨its,_,pl,_⟩:=I.list hq
   refine⟨pl.isList.typeIs,λa e=>?_⟩
   cases e
   obtain⟨o,n,e,c,hd,_⟩:=pl
   exact⟨o,e,hd⟩
  ·refine⟨⟨o,I.kIn p o hk,hc⟩,λa e=>?_⟩
   cases e
   exact⟨o,I.kIn _ o hk,hd⟩
  ·have z:∃o,s.heap.get? p=some o/\o.ExactDict:=by
    rcases hk with ⟨kvs,hk⟩ | ⟨kvs,hk⟩
    ·obtain⟨_,_,_,_,o,_,_,e,ex,_⟩:=I.hok p _ hk
     exact⟨o,e,ex⟩
    ·obtain⟨_,_,_,_,o,_,_,e,ex,_⟩:=I.hok p _ hk
     exact⟨o,e,ex⟩
   obtain⟨o,e,ex⟩:=z
   refine⟨⟨o,e,ex.1⟩,λa e2=>?_⟩
   cases e2
   exact⟨o,e,ex.2.1⟩
  ·obtain⟨o,_,_,_,e,ex,_⟩:=I.hok p _ hk
   refine⟨⟨o,e,ex.1⟩,λa e2=>?_⟩
   cases e2
   exact⟨o,e,ex.2.1⟩
 | _=>exact False.elim ty
def tBM(K:PySem.W.Frag)(T:String)(r:V->List V->Hp->VK->Prop)(to:TE)(t:TA):TE:=λσ H Q=>to σ H λx H1=>tyV K T x H1/\t σ H1 λxs H2=>r x xs H2 Q
variable{o e:Expr}{es:List Expr}{to:TE}{t:TA}{name:Str}{apos cpos:Pos}{T id:String}{r:V->List V->Hp->VK->Prop}
theorem su(pa:PlainAttrs T)(slot:Slot T name id)(hty:typeOf (.builtin id)=pure (.type "method_descriptor"))(hm:MtR X id r)(ho:PE X o to)(ha:PA X (e::es) t)
  (hbase:attributeBase o name X.env (eval o X.env)=eval o X.env:=by rfl)
  (hfew:((backTo cpos (starEach (e::es) X.env)).all (λx=>!x.1)&&(backToKw cpos (keywordEach [] X.env)).all (λx=>x.1.isSome)
   && decide ((e::es).length+([]:List Keyword).length+(if ([]:List Keyword).isEmpty then 0 else 1)<30))=true:=by rfl)
  (hline:(apos.endLine==cpos.line)=true:=by rfl) (hs:starEach (e::es) X.env=(false,eval e X.env)::starEach es X.env:=by rfl) (hplain:(backTo cpos (starEach es X.env)).any (·.1)=false:=by rfl) :
  PE X (.Call (.Attribute o name apos) (e::es) [] cpos) (tBM X.K T r to t):=by
 intro pins s σ H Q I h
 refine wpAny_Call_method_late hbase hfew hline rfl (thn (ho pins s σ H _ I h) λv s1 ⟨x,H1,I1,r1,ty,q1⟩=>?_)
 obtain⟨h1,h2⟩:=a4q I1 r1 ty
 refine⟨T,id,pa,slot,hty,h1,h2,?_⟩
 have hA:=ha cpos pins s1 σ H1 _ I1 q1
 rw[hs]at hA ⊢
 refine Calls.callWith_builtin (by show(false||(backTo cpos (starEach es X.env)).any (·.1))=false;rw[hplain]<;>rfl) (Calls.evalArgs_plain ?_)
 exact thn hA λus s2 ⟨vs,H2,I2,r2,q2⟩=>hm pins s2 σ H2 x vs v us Q I2 r1 r2 q2
end
def MtM(X:Cx)(id:String)(r:V->List V->Hp->VK->Prop):Prop :=
 ∀(pins:List (Addr×Obj)) (s:Shared) (σ:St) (H:Hp) (x:V) (xs:List V) (v:Value) (us:List Value) (Q:VK),Inv X pins σ H s->RelV x v->Vals xs us->r x xs H Q ->
  wpAny (model X.prog X.w) X.A (call (.builtin id) (v::us)) (EP X pins σ Q) X.xe s
theorem Vals.one:∀{x:V}{us:List Value},Vals [x] us->∃u,us=[u]/\RelV x u
 | _,_,.cons r .nil=>⟨_,rfl,r⟩
section
variable{X:Cx}{pins:List (Addr×Obj)}{σ:St}{H:Hp}{s:Shared}{l b:Addr}{xs ys zs:List V}
theorem Inv.ahq{its its':List Value}{n:Nat}{f:Array Value->Array Value}{t':Nat}(I:Inv X pins σ H s)(hH:H l=some (.lst xs))
  (e:s.heap.get? l=some {cls:=.type "list",data:=.seq its.toArray n}) (hf:f its.toArray=its'.toArray) (hv:Vals ys its') (hz:ys.length<=sizeLine) :
  Inv X pins σ (upd H l (.lst ys)) {s with heap:=s.heap.update l (Obj.mapSeq f),toks:=t'}:=by
 have q:=PySem.IsL.update e f
 rw[hf]at q
 refine I.write (x:=l) (e:=l) (by rw[hH];exact trivial) (.inl rfl) (λb' u hb hu=>(Heap.get?_update_other s.heap (Obj.mapSeq f) (Ne.symm hb)).trans hu) ⟨_,q⟩ ?_
 exact⟨hz,its',_,hv,q⟩
theorem Inv.awp{its:List Value}{t':Nat}(I:Inv X pins σ H s)(hv:Vals ys its)(hz:ys.length<=sizeLine):
  Inv X pins σ (upd H s.heap.objs.size (.lst ys)) {s with heap:=s.heap.push {cls:=.type "list",data:=.seq its.toArray},toks:=t'} :=
 I.laid (λ_ _ q=>Heap.get?_push_of_some _ q) (Nat.le_refl _) ⟨hz,its,0,hv,Heap.get?_push_size _ rfl⟩
theorem Inv.fresh(I:Inv X pins σ H s):H s.heap.objs.size=none:=I.hok.fresh (Nat.le_refl _)
theorem Inv.acb(I:Inv X pins σ H s)(hH:H l=some (.lst xs)):xs.length<=sizeLine/\∃(its:List Value) (n:Nat),Vals xs its/\xs.length=its.length/\s.heap.get? l=some {cls:=.type "list",data:=.seq its.toArray n}:=by
 obtain⟨z,its,n,r,e⟩:=I.hok l _ hH
 exact⟨z,its,n,r,r.length,e⟩
theorem ano{n:Nat}(h:n<=sizeLine):Builtin.List.listTooLong n=false:=by
 unfold Builtin.List.listTooLong
 exact decide_eq_false (by omega)
end
section
variable{X:Cx}
def aol:V->List V->Hp->VK->Prop:=λx vs H Q=>∃l xs y,x=.ref l/\vs=[y]/\H l=some (.lst xs)/\xs.length<sizeLine/\Q .non (upd H l (.lst (xs++[y])))
theorem ace:MtM X "list.append" aol:=by
 intro pins s σ H x vs v us Q I rx rv h
 obtain⟨l,xs,y,rfl,rfl,hH,hz,q⟩:=h
 cases rx
 obtain⟨u,rfl,ru⟩:=rv.one
 obtain⟨z,its,n,r,hl,e⟩:=I.acb hH
 refine call_meets F.slot_list_append ⟨_,e,rfl⟩ F.entry_list_append (F.args_list_append_2 _ _) (PySem.list_append l its.toArray n u (by rw[List.size_toArray];omega)) ⟨e,?_⟩
 refine⟨.non,_,I.ahq (its':=its++[u]) hH e (by simp) (r.append (.cons ru .nil)) ?_,rfl,q⟩
 rw[List.length_append,List.length_singleton]
 omega
def a0r:V->List V->Hp->VK->Prop:=λx vs H Q=>∃l b xs zs,x=.ref l/\vs=[.ref b]/\H l=some (.lst xs)/\H b=some (.lst zs)/\xs.length+zs.length<=sizeLine/\Q .non (upd H l (.lst (xs++zs)))
theorem aan:MtM X "list.extend" a0r:=by
 intro pins s σ H x vs v us Q I rx rv h
 obtain⟨l,b,xs,zs,rfl,rfl,hH,hB,hz,q⟩:=h
 cases rx
 obtain⟨u,rfl,ru⟩:=rv.one
 cases ru
 obtain⟨z,its,n,r,hl,e⟩:=I.acb hH
 obtain⟨z2,its2,n2,r2,hl2,e2⟩:=I.acb hB
 have hsz:its.toArray.size+its2.toArray.size<=sizeLine:=by rw[List.size_toArray,List.size_toArray];omega
 have hlong:¬(!its.toArray.isEmpty&&Builtin.List.listTooLong (its.toArray.size+its2.toArray.size))=true:=by
  rw[ano hsz,Bool.and_false]
  exact Bool.false_ne_true
 refine call_meets F.slot_list_extend ⟨_,e,rfl⟩ F.entry_list_extend (F.args_list_extend_2 _ _)
  (AutoSeq1.list_extend_list_list_0 l its.toArray n b its2.toArray n2 hlong (by rw[List.size_toArray];omega) (by omega)) ⟨e,e2,?_⟩
 refine⟨.non,_,I.ahq (its':=its++its2) hH e (by simp) (r.append r2) ?_,rfl,q⟩
 rw[List.length_append]
 omega
def a0q:R2:=λx y H Q=>∃l b xs zs,x=.ref l/\y=.ref b/\H l=some (.lst xs)/\H b=some (.lst zs)/\xs.length+zs.length<=sizeLine/\∀p,H p=none->Q (.ref p) (upd H p (.lst (xs++zs)))
theorem ah4:OpR X (binaryOp .Add) a0q:=by
 intro pins s σ H x y v u Q I rx ry h
 obtain⟨l,b,xs,zs,rfl,rfl,hH,hB,hz,q⟩:=h
 cases rx
 cases ry
 obtain⟨z,its,n,r,hl,e⟩:=I.acb hH
 obtain⟨z2,its2,n2,r2,hl2,e2⟩:=I.acb hB
 refine PySem.P.add_list e e2 ?_ (by rw[List.size_toArray,List.size_toArray];omega)
 have ea:its.toArray++its2.toArray=(its++its2).toArray:=by simp
 rw[ea]
 exact⟨.ref _,_,I.awp (t':=s.toks) (r.append r2) (by rw[List.length_append];omega),rfl,q _ I.fresh⟩
end
theorem Vals.ints:∀{ns:List Int}{us:List Value},Vals (ns.map V.int) us->IntsAre us ns
 | [],us,h=>by
  rw[List.map_nil]at h
  cases h
  exact IntsAre.nil
 | n::ns,us,h=>by
  rw[List.map_cons]at h
  cases h with
  | cons r t =>
   obtain⟨k,rfl⟩:=r
   exact IntsAre.cons n k (Vals.ints t)
theorem asb:∀{us:List Value}{ns:List Int},IntsAre us ns->Vals (ns.map V.int) us
 | _,_,.nil=>by rw[List.map_nil];exact Paired.nil
 | _,_,.cons n t h=>by rw[List.map_cons];exact Paired.cons (show RelV (V.int n) (Value.int n t) from⟨t,rfl⟩) (asb h)
theorem Vals.bls:∀{bs:List Bool}{us:List Value},Vals (bs.map V.bl) us->us=bs.map Value.bool
 | [],us,h=>by
  rw[List.map_nil]at h
  cases h
  rfl
 | b::bs,us,h=>by
  rw[List.map_cons]at h
  cases h with
  | cons r t =>
   cases r
   rw[Vals.bls t,List.map_cons]
theorem Vals.aij{a:Addr}{us:List Value}(r:Vals [V.ref a] us):us=[Value.ref a]:=by
 cases r with
 | cons r t =>
  cases t
  cases r
  rfl
theorem avp{prog:Program}{w:World}{A:Around}{E:Value->Shared->Prop}{s:Shared}{l:Addr}{items:Array Value}{Q:Value->Shared->Prop}(hl:s.heap.IsList l items)
  (h:∀s₂:Shared,s₂={s with heap:=s.heap.push {cls:=.type "list_iterator",data:=.fields #[.ref l,.int 0 0]}} ->
   (s₂.heap.IsListIter s.heap.objs.size l 0/\s₂.heap.IsList l items)->l≠s.heap.objs.size->Q (.ref s.heap.objs.size) s₂):wpAny (model prog w) A (pyIter (.ref l)) Q E s:=by
 have hlt:l<s.heap.objs.size:=by obtain⟨_,e,_⟩:=hl;exact Heap.lt_size e
 exact wpAny_pyIter_list hl (h _ rfl ⟨⟨_,Heap.get?_push_size _ rfl,rfl,rfl⟩,hl.push _⟩ (Nat.ne_of_lt hlt))
theorem a4c{prog:Program}{w:World}{A:Around}{bs:List Bool}{its:List Value}(e:its=bs.map Value.bool):
  TruthOf prog w A (λi v=>its.toArray[i]? = some v) (λi=>bs.getD i false):=λi v s Q E hv hq=>by
 have hv':its[i]? = some v:=by simpa using hv
 rw[e,List.getElem?_map]at hv'
 obtain⟨b,hb,rfl⟩:=Option.map_eq_some_iff.mp hv'
 have hg:bs.getD i false=b:=by rw[List.getD_eq_getElem?_getD,hb]<;>rfl
 have hq':Q (bs.getD i false) s:=hq
 rw[hg]at hq'
 exact wpAny_truthy_bool hq'
theorem any_range:∀bs:List Bool,(List.range bs.length).any (λi=>bs.getD i false)=bs.any id
 | []=>rfl
 | b::bs=>by
  rw[List.length_cons,List.range_succ_eq_map,List.any_cons,List.any_map,List.any_cons,<-any_range bs]
  all_goals rfl
theorem all_range:∀bs:List Bool,(List.range bs.length).all (λi=>bs.getD i false)=bs.all id
 | []=>rfl
 | b::bs=>by
  rw[List.length_cons,List.range_succ_eq_map,List.all_cons,List.all_map,List.all_cons,<-all_range bs]
  all_goals rfl
section
variable{X:Cx}
def a0p(K:PySem.W.Frag):List V->Hp->VK->Prop:=λvs H Q=>∃(a:Addr) (bs:List Bool),vs=[V.ref a]/\SqL K H a (bs.map V.bl)/\Q (.bl (bs.all id)) H
theorem atv(hc:X.calm=true):vh X (.builtin "all") (a0p X.K):=by
 intro pins s σ H vs us Q I r h
 obtain⟨a,bs,rfl,hs,q⟩:=h
 obtain⟨its,rv,hl,_⟩:=I.list hs
 rw[Vals.aij r]
 have hb:=rv.bls
 refine call_all_walk (avp hl.isList λs₂ e2 st hne=>?_)
 subst e2
 refine⟨_,_,_,_,_,_,_,rfl,Walks.list (A:=X.A.in1) (I.ok.hd hc) _ a hne its.toArray,st,a4c hb,λh' tk hk=>?_⟩
 refine⟨.bl _,H,I.kept λb o eo=>hk b o (λhmem=>?_) (Heap.get?_push_of_some _ eo),?_,q⟩
 ·rcases List.mem_cons.mp hmem with e1 | hmem
  ·exact absurd (e1▸Heap.lt_size eo) (Nat.lt_irrefl _)
  ·cases hmem
 ·show Value.bool _=Value.bool _
  rw[<-all_range,hb,List.size_toArray,List.length_map]
end
mutual
inductive Dp(K:PySem.W.Frag)(H:Hp):V->PyData->Prop
 | non:Dp K H .non .none
 | bl (b:Bool):Dp K H (.bl b) (.bool b)
 | int (i:Int):Dp K H (.int i) (.int i)
 | str (x:Str):Dp K H (.str x) (.str x)
 | lst {a:Addr}{xs:List V}{ds:List PyData}:SqL K H a xs->aa5 K H xs ds->Dp K H (.ref a) (.list ds)
 | tup {a:Addr}{xs:List V}{ds:List PyData}:SqT K H a xs->aa5 K H xs ds->Dp K H (.ref a) (.tuple ds)
inductive aa5(K:PySem.W.Frag)(H:Hp):List V->List PyData->Prop
 | nil:aa5 K H [] []
 | cons {v:V}{vs:List V}{d:PyData}{ds:List PyData}:Dp K H v d->aa5 K H vs ds->aa5 K H (v::vs) (d::ds)
end
section
variable{X:Cx}{pins:List (Addr×Obj)}{σ:St}{H:Hp}{s:Shared}
mutual
theorem Dp.reads(I:Inv X pins σ H s):∀(d:PyData) (v:V) (u:Value),Dp X.K H v d->RelV v u->∃as,Reads s.heap u d as
 | .none,_,_,h,r=>by
  cases h
  cases r
  exact⟨_,Reads.none⟩
 | .bool b,_,_,h,r=>by
  cases h
  cases r
  exact⟨_,Reads.bool b⟩
 | .int i,_,_,h,r=>by
  cases h
  obtain⟨t,rfl⟩:=r
  exact⟨_,Reads.int i t⟩
 | .str x,_,_,h,r=>by
  cases h
  obtain⟨t,rfl⟩:=r
  exact⟨_,Reads.str x t⟩
 | .list ds,_,_,h,r=>by
  cases h with
  | lst hs ha =>
   cases r
   obtain⟨its,rv,⟨o,n,ho,hc,_,hd⟩,_⟩:=I.list hs
   obtain⟨as,hr⟩:=Dp.readsAll I ds _ its ha rv
   exact⟨_,Reads.list ho hc hd hr⟩
 | .tuple ds,_,_,h,r=>by
  cases h with
  | tup hs ha =>
   cases r
   obtain⟨its,rv,⟨o,ho,hc,n,hd⟩,_⟩:=I.tuple hs
   obtain⟨as,hr⟩:=Dp.readsAll I ds _ its ha rv
   exact⟨_,Reads.tuple ho hc hd hr⟩
 | .dict _,_,_,h,_=>by cases h
theorem Dp.readsAll(I:Inv X pins σ H s):∀(ds:List PyData) (vs:List V) (us:List Value),aa5 X.K H vs ds->Vals vs us->∃as,ReadsAll s.heap us ds as
 | [],_,_,h,r=>by
  cases h
  cases r
  exact⟨_,ReadsAll.nil⟩
 | d::ds,_,_,h,r=>by
  cases h with
  | cons h1 h2 =>
   cases r with
   | cons r1 r2 =>
    obtain⟨as,q1⟩:=Dp.reads I d _ _ h1 r1
    obtain⟨bs,q2⟩:=Dp.readsAll I ds _ _ h2 r2
    exact⟨_,ReadsAll.cons q1 q2⟩
end
end
section
variable{X:Cx}
def a0u(K:PySem.W.Frag):R2:=λx y H Q=>∃d e,Dp K H x d/\Dp K H y e/\SeqAt.shaped d=true/\SeqAt.shaped e=true/\Q (.bl (!PyData.eqv d e)) H
theorem ah6(hu:X.A.units+64<cLine):OpR X (compareOp .NotEq) (a0u X.K):=by
 intro pins s σ H x y v u Q I rx ry h
 obtain⟨d,e,hd,he,sd,se,q⟩:=h
 obtain⟨as,r1⟩:=Dp.reads I d x v hd rx
 obtain⟨bs,r2⟩:=Dp.reads I e y u he ry
 exact SeqAt.compareNe_shaped r1 r2 sd se hu ⟨.bl _,H,I,rfl,q⟩
end
abbrev akr(h:Heap)(c:Addr)(v:Option Value):Prop:=h.IsCell c v
def a03(scope sc:Scope):Scope :=
 {scope with names:=scope.names.map λ(n,k)=>if (k == .free&&sc.kind == .function&&sc.names.lookup n==some .cell)then(n,.cell)else(n,k)}
def m5(cells:List (Str×Addr)):List (Str×NameKind)->List (Str×Addr)->List (Str×Addr)
 | [],acc=>acc
 | (n,k)::r,acc=>if k == .free then m5 cells r ((n,(cells.lookup n).getD 0)::acc)else m5 cells r acc
theorem alr(env:Env)(f:Str×NameKind->List (Str×Addr)->Sem (ForInStep (List (Str×Addr))))
  (hf:∀n k c,f (n,k) c=if k == .free then(do let a <-cellOf env n;pure (.yield ((n,a)::c)))else pure (.yield c)) :
  ∀(names:List (Str×NameKind)) (acc:List (Str×Addr)),(∀y∈names,y.2=.free->∃c,env.cells.lookup y.1=some c)->forIn names acc f=pure (m5 env.cells names acc)
 | [],acc,_=>by rw[List.forIn_nil];rfl
 | (n,k)::r,acc,h=>by
  rw[List.forIn_cons,hf]
  have ih:=λacc=>alr env f hf r acc λy hy=>h y (List.mem_cons_of_mem _ hy)
  unfold m5
  by_cases hk:(k==NameKind.free)=true
  ·rw[if_pos hk,if_pos hk]
   obtain⟨c,hc⟩:=h (n,k) List.mem_cons_self (by simpa using hk)
   have e:cellOf env n=pure c:=by unfold cellOf;rw[hc]
   rw[e]
   have e2:(env.cells.lookup n).getD 0=c:=by rw[hc];rfl
   rw[e2]
   exact ih _
  ·rw[if_neg hk,if_neg hk]
   exact ih _
theorem atq{scope:Scope}{env:Env}(h:∀y∈scope.names,y.2=.free->∃c,env.cells.lookup y.1=some c):closureFor scope env=pure (m5 env.cells scope.names []):=by
 simp only[closureFor]
 rw[alr env _ (λn k c=>rfl) scope.names [] h]
 rfl
theorem mem_lookup{α:Type}:∀{l:List (Str×α)}{n:Str}{c:α},(n,c)∈l->∃c',l.lookup n=some c'
 | (k,v)::r,n,c,h=>by
  rw[List.lookup_cons]
  cases hb:n==k with
  | true=>exact⟨_,rfl⟩
  | false =>
   rcases List.mem_cons.mp h with e | h
   ·cases e;simp at hb
   ·exact mem_lookup h
theorem aen{cells:List (Str×Addr)}:∀{names:List (Str×NameKind)}{acc:List (Str×Addr)}{n:Str}{c:Addr},(n,c)∈m5 cells names acc->(n,c)∈acc\/((n,.free)∈names/\c=(cells.lookup n).getD 0)
 | [],_,_,_,h=>.inl h
 | (m,k)::r,acc,n,c,h=>by
  unfold m5 at h
  split at h
  ·rename_i hk
   have hk:k=.free:=by simpa using hk
   rcases aen h with h | ⟨h1,h2⟩
   ·rcases List.mem_cons.mp h with e | h
    ·cases e;exact .inr ⟨hk▸List.mem_cons_self,rfl⟩
    ·exact .inl h
   ·exact .inr ⟨List.mem_cons_of_mem _ h1,h2⟩
  ·rcases aen h with h | ⟨h1,h2⟩
   ·exact .inl h
   ·exact .inr ⟨List.mem_cons_of_mem _ h1,h2⟩
theorem agw{cells:List (Str×Addr)}:∀{names:List (Str×NameKind)}{acc:List (Str×Addr)}{p:Str×Addr},p∈acc->p∈m5 cells names acc
 | [],_,_,h=>h
 | (m,k)::r,acc,p,h=>by
  unfold m5
  split
  ·exact agw (List.mem_cons_of_mem _ h)
  ·exact agw h
theorem agx{cells:List (Str×Addr)}:∀{names:List (Str×NameKind)}{acc:List (Str×Addr)}{n:Str},(n,.free)∈names->(n,(cells.lookup n).getD 0)∈m5 cells names acc
 | (m,k)::r,acc,n,h=>by
  unfold m5
  rcases List.mem_cons.mp h with e | h
  ·cases e
   exact agw List.mem_cons_self
  ·split
   ·exact agx h
   ·exact agx h
theorem ac6:∀{names:List (Str×NameKind)}{h:Heap}{acc:List (Str×Addr)}{x:Str}{c:Addr},(x,c)∈cellsFrom h.objs.size names acc ->
  (x,c)∈acc\/((x,.cell)∈names/\h.objs.size<=c/\akr (pushCells h names) c none)
 | [],_,_,_,_,h=>.inl h
 | (n,k)::r,h,acc,x,c,hm=>by
  unfold cellsFrom at hm
  unfold pushCells
  split at hm
  ·rename_i hk
   rw[if_pos hk]
   have hk:k=.cell:=by simpa using hk
   rw[<-Heap.size_push h {cls:=.type "cell",data:=.cell none}]at hm
   rcases ac6 hm with hm | ⟨h1,h2,h3⟩
   ·rcases List.mem_cons.mp hm with e | hm
    ·cases e
     exact .inr ⟨hk▸List.mem_cons_self,Nat.le_refl _,_,pushCells_keeps r _ _ _ (Heap.get?_push_size _ rfl),rfl⟩
    ·exact .inl hm
   ·rw[Heap.size_push]at h2
    exact .inr ⟨List.mem_cons_of_mem _ h1,Nat.le_of_succ_le h2,h3⟩
  ·rename_i hk
   rw[if_neg hk]
   rcases ac6 hm with hm | ⟨h1,h2,h3⟩
   ·exact .inl hm
   ·exact .inr ⟨List.mem_cons_of_mem _ h1,h2,h3⟩
theorem aem:∀{names:List (Str×NameKind)}{n:Nat}{acc:List (Str×Addr)}{p:Str×Addr},p∈acc->p∈cellsFrom n names acc
 | [],_,_,_,h=>h
 | (m,k)::r,n,acc,p,h=>by
  unfold cellsFrom
  split
  ·exact aem (List.mem_cons_of_mem _ h)
  ·exact aem h
theorem agt:∀{names:List (Str×NameKind)}{n:Nat}{acc:List (Str×Addr)}{x:Str},(x,.cell)∈names->∃c,(x,c)∈cellsFrom n names acc
 | (m,k)::r,n,acc,x,h=>by
  unfold cellsFrom
  rcases List.mem_cons.mp h with e | h
  ·cases e
   exact⟨n,aem List.mem_cons_self⟩
  ·split
   ·exact agt h
   ·exact agt h
theorem agu:∀{names:List (Str×NameKind)}{h:Heap}{acc:List (Str×Addr)}{x y:Str}{c:Addr},(∀p∈acc,p.2<h.objs.size)->(∀x y c,(x,c)∈acc->(y,c)∈acc->x=y) ->
  (x,c)∈cellsFrom h.objs.size names acc->(y,c)∈cellsFrom h.objs.size names acc->x=y
 | [],_,_,_,_,_,_,hi,h1,h2=>hi _ _ _ h1 h2
 | (n,k)::r,h,acc,x,y,c,hl,hi,h1,h2=>by
  unfold cellsFrom at h1 h2
  split at h1
  ·rename_i hk
   rw[if_pos hk]at h2
   rw[<-Heap.size_push h {cls:=.type "cell",data:=.cell none}]at h1 h2
   refine agu (h:=h.push _) (λp hp=>?_) (λx y c a b=>?_) h1 h2
   ·rw[Heap.size_push]
    rcases List.mem_cons.mp hp with rfl | hp
    ·exact Nat.lt_succ_self _
    ·exact Nat.lt_succ_of_lt (hl p hp)
   ·rcases List.mem_cons.mp a with e | a<;>rcases List.mem_cons.mp b with e' | b
    ·cases e;cases e';rfl
    ·cases e;exact absurd (hl _ b) (Nat.lt_irrefl _)
    ·cases e';exact absurd (hl _ a) (Nat.lt_irrefl _)
    ·exact hi _ _ _ a b
  ·rename_i hk
   rw[if_neg hk]at h2
   exact agu hl hi h1 h2
theorem aw3{M:Model}{A:Around}{E:Value->Shared->Prop}{s:Shared}{scope:Scope}{globals:Addr}{closure:List (Str×Addr)}{qual:Str}{func:Option Addr}{code:Value}{around:Env}{builtins:Addr}{Q:Env->Shared->Prop}
  (h:Q (newEnv scope s.heap.objs.size globals (cellsFrom (s.heap.objs.size+1) scope.names closure) qual func code (some around) builtins)
   {s with heap:=pushCells (s.heap.push {cls:=.type "dict",data:=.dict #[]}) scope.names}) :
  wpAny M A (newFunctionEnv scope globals closure [] qual func code (some around) builtins) Q E s:=by
 simp only[newFunctionEnv,Option.isSome_some,if_true]
 refine wpAny_bind (wpAny_alloc ?_)
 refine wpAny_bind (wpAny_layCells _ (λn k c=>rfl) scope.names closure _ _ ?_)
 rw[show({s with heap:=s.heap.push {cls:=.type "dict",data:=.dict #[]}}:Shared).heap.objs.size=s.heap.objs.size+1 from Heap.size_push ..]
 rw[List.forIn_nil]
 exact wpAny_bind (wpAny_pure (wpAny_pure h))
theorem ahp{sc:Scope}:∀{names:List (Str×NameKind)}{x:Str}{k:NameKind},
  (names.map λ(n,k)=>if (k==NameKind.free&&sc.kind == .function&&sc.names.lookup n==some .cell)then(n,NameKind.cell)else(n,k)).lookup x=some k ->
  ∃k',names.lookup x=some k'/\(k=k'\/(k'=.free/\k=.cell))
 | [],_,_,h=>by simp at h
 | (n,k₀)::r,x,k,h=>by
  have ih:=@ahp sc r x k
  have h':List.lookup x ((if (k₀==NameKind.free&&sc.kind == .function&&sc.names.lookup n==some .cell)=true then(n,NameKind.cell)else(n,k₀))::(r.map _))=some k:=h
  cases hx:x==n with
  | true =>
   simp only[List.lookup_cons,hx]
   by_cases hc:(k₀==NameKind.free&&sc.kind == .function&&sc.names.lookup n==some .cell)=true
   ·rw[if_pos hc]at h'
    simp only[List.lookup_cons,hx]at h'
    cases h'
    simp only[Bool.and_eq_true,beq_iff_eq]at hc
    exact⟨k₀,rfl,.inr ⟨hc.1.1,rfl⟩⟩
   ·rw[if_neg hc]at h'
    simp only[List.lookup_cons,hx]at h'
    cases h'
    exact⟨_,rfl,.inl rfl⟩
  | false =>
   simp only[List.lookup_cons,hx]
   by_cases hc:(k₀==NameKind.free&&sc.kind == .function&&sc.names.lookup n==some .cell)=true
   ·rw[if_pos hc]at h'
    simp only[List.lookup_cons,hx]at h'
    exact ih h'
   ·rw[if_neg hc]at h'
    simp only[List.lookup_cons,hx]at h'
    exact ih h'
structure acz(N:List Str)(sc scope:Scope)(own:List (Str×Nat)):Prop where
 kind:scope.kind=.function
 uniq:∀y∈scope.names,scope.names.lookup y.1=some y.2
 ix:∀p∈own,N[p.2]? = some p.1
 free:∀y∈scope.names,y.2=.free->sc.names.lookup y.1=some .cell\/sc.names.lookup y.1=some .free
 own:∀y∈scope.names,y.2=.local\/y.2=.cell->y.1∈own.map (·.1)\/y.1∉N
def wipe(σ:St):List Nat->St
 | []=>σ
 | v::vs=>(wipe σ vs).set v none
theorem ako(σ:St):∀vs:List Nat,(wipe σ vs).length=σ.length
 | []=>rfl
 | v::vs=>by unfold wipe;rw[List.length_set,ako σ vs]
theorem akp{σ:St}{i:Nat}{x:V}:∀{vs:List Nat},(wipe σ vs)[i]? = some (some x)->σ[i]? = some (some x)/\i∉vs
 | [],h=>⟨h,by simp⟩
 | v::vs,h=>by
  unfold wipe at h
  by_cases hi:v=i
  ·subst hi
   by_cases hv:v<(wipe σ vs).length
   ·rw[List.getElem?_set_self hv]at h;cases h
   ·rw[List.getElem?_eq_none (by simpa using hv)]at h;cases h
  ·rw[List.getElem?_set_ne hi]at h
   obtain⟨h1,h2⟩:=akp h
   exact⟨h1,by simp only[List.mem_cons,not_or];exact⟨λe=>hi e.symm,h2⟩⟩
abbrev Cx.blk(X:Cx)(s:Shared)(H:Hp)(scope:Scope)(cenv:Env)(fp:List Addr):Cx:={X with s_0:=s,H_0:=H,env:=cenv,outer:=X.stack,ex:=fp,fn:=λx=>scope.names.lookup x==some .cell,pn:=[],xe:=λ_ _=>False}
section
variable{X:Cx}{pins:List (Addr×Obj)}{σ:St}{H:Hp}{s:Shared}
theorem atg{scope:Scope}{own:List (Str×Nat)}{fp:List Addr}(I:Inv X pins σ H s)(ok:acz X.N X.env.scope scope own)(hN:X.N.Nodup)(hfp:∀b∈fp,vo X pins H b/\b<s.heap.objs.size):
  Inv (X.blk s H scope (compEnvC scope (cellsFrom (s.heap.objs.size+1) scope.names (m5 X.env.cells scope.names [])) s.heap.objs.size X.env) fp) [] (wipe σ (own.map (·.2))) H {s with heap:=pushCells (s.heap.push {cls:=.type "dict",data:=.dict #[]}) scope.names}:=by
 have hfree:∀y∈scope.names,y.2=.free->∃c,X.env.cells.lookup y.1=some c:=λy hy e=>by
  rcases ok.free y hy e with k | k
  ·exact I.ok.has _ (.inl k)
  ·exact I.ok.has _ (.inr k)
 generalize hcenv:compEnvC scope (cellsFrom (s.heap.objs.size+1) scope.names (m5 X.env.cells scope.names [])) s.heap.objs.size X.env=cenv
 have kp:∀b o,s.heap.get? b=some o->(pushCells (s.heap.push {cls:=.type "dict",data:=.dict #[]}) scope.names).get? b=some o:=λb o e=>pushCells_keeps _ _ _ _ (Heap.get?_push_of_some _ e)
 have hL:cenv.locals=s.heap.objs.size:=by rw[<-hcenv];rfl
 have hcl:cenv.cells=cellsFrom (s.heap.objs.size+1) scope.names (m5 X.env.cells scope.names []):=by rw[<-hcenv];rfl
 have hsc:cenv.scope=a03 scope X.env.scope:=by rw[<-hcenv];rfl
 rw[<-Heap.size_push s.heap {cls:=.type "dict",data:=.dict #[]}]at hcl
 have cm:∀{y c},(y,c)∈m5 X.env.cells scope.names []->X.env.cells.lookup y=some c/\c<s.heap.objs.size:=λ{y c} hm=>by
  rcases aen hm with hm | ⟨h1,rfl⟩
  ·cases hm
  ·obtain⟨c,hc⟩:=hfree _ h1 rfl
   rw[hc]
   obtain⟨w,z⟩:=I.cell _ _ hc
   exact⟨rfl,z.lt⟩
 have mem:∀{y c},cenv.cells.lookup y=some c->(X.env.cells.lookup y=some c/\c<s.heap.objs.size)\/(s.heap.objs.size+1<=c/\akr (pushCells (s.heap.push {cls:=.type "dict",data:=.dict #[]}) scope.names) c none):=λ{y c} e=>by
  rw[hcl]at e
  rcases ac6 (PySem.mem_of_lookup e)with hm | ⟨_,h2,h3⟩
  ·exact .inl (cm hm)
  ·rw[Heap.size_push]at h2;exact .inr ⟨h2,h3⟩
 have look:∀{y},scope.names.lookup y=some .free->∃c,cenv.cells.lookup y=some c/\X.env.cells.lookup y=some c:=λ{y} hl=>by
  have hy:(y,NameKind.free)∈scope.names:=PySem.mem_of_lookup hl
  obtain⟨c',e'⟩:=mem_lookup (aem (names:=scope.names) (n:=(s.heap.push {cls:=.type "dict",data:=.dict #[]}).objs.size) (agx (cells:=X.env.cells) (acc:=[]) hy))
  rw[<-hcl]at e'
  refine⟨c',e',?_⟩
  rw[hcl]at e'
  rcases ac6 (PySem.mem_of_lookup e')with hm | ⟨h1,_,_⟩
  ·exact(cm hm).1
  ·have:=ok.uniq _ h1
   rw[hl]at this;cases this
 have okB:(X.blk s H scope cenv fp).Ok:=by
  refine⟨I.ok.mod,by show cenv.scope.kind=_;rw[hsc];exact ok.kind,by show cenv.globals=_;rw[<-hcenv];exact I.ok.glob,by show cenv.builtins=_;rw[<-hcenv];exact I.ok.blt,by show s.heap.objs.size<=cenv.locals;rw[hL];exact Nat.le_refl _,
   λy z c e1 e2=>?_,λy hy=>?_,λy c z e=>?_,I.ok.hd,I.ok.frames,.inl rfl,λb hb=>⟨?_,λy c e z=>?_⟩,I.bs,Nat.le_trans I.ok.bsz I.sz,λb o e hb=>?_,λb hb z=>?_,I.stack,I.akh⟩
  ·have e1:cenv.cells.lookup y=some c:=e1
   have e2:cenv.cells.lookup z=some c:=e2
   rw[hcl]at e1 e2
   refine agu (λp hp=>?_) (λy z c a b=>I.ok.inj y z c (cm a).1 (cm b).1) (PySem.mem_of_lookup e1) (PySem.mem_of_lookup e2)
   rw[Heap.size_push]
   exact Nat.lt_succ_of_lt (cm (y:=p.1) (c:=p.2) hp).2
  ·show ∃c,cenv.cells.lookup y=some c
   have key:∀k,cenv.kindOf y=some k->(k=.cell\/k=.free)->∃c,cenv.cells.lookup y=some c:=λk hk hk'=>by
    unfold Env.kindOf at hk
    rw[hsc]at hk
    obtain⟨k',e,r⟩:=ahp hk
    have:k'=.cell\/k'=.free:=by
     rcases r with rfl | ⟨rfl,_⟩
     ·exact hk'
     ·exact .inr rfl
    rcases this with rfl | rfl
    ·obtain⟨c,hm⟩:=agt (n:=(s.heap.push {cls:=.type "dict",data:=.dict #[]}).objs.size) (acc:=m5 X.env.cells scope.names []) (PySem.mem_of_lookup e)
     obtain⟨c',e'⟩:=mem_lookup hm
     exact⟨c',by rw[hcl];exact e'⟩
    ·obtain⟨c,h1,_⟩:=look e
     exact⟨c,h1⟩
   rcases hy with hy | hy
   ·exact key _ hy (.inl rfl)
   ·exact key _ hy (.inr rfl)
  ·have z:(scope.names.lookup y==some NameKind.cell)=true:=z
   have z:scope.names.lookup y=some .cell:=by simpa using z
   have e:cenv.cells.lookup y=some c:=e
   rw[hcl]at e
   rcases ac6 (PySem.mem_of_lookup e)with hm | ⟨_,h2,_⟩
   ·rcases aen hm with hm | ⟨h1,_⟩
    ·cases hm
    ·have q:=ok.uniq _ h1
     rw[z]at q;cases q
   ·rw[Heap.size_push]at h2
    exact Nat.le_of_succ_le h2
  ·show b≠cenv.locals
   rw[hL];exact Nat.ne_of_lt (hfp b hb).2
  ·have e:cenv.cells.lookup y=some c:=e
   rcases mem e with ⟨h1,_⟩ | ⟨h1,_⟩
   ·exact(hfp b hb).1.2.2.2.2.1 y c h1 z
   ·have h2:s.heap.objs.size+1<=b:=by rw[<-z];exact h1
    exact absurd (Nat.lt_of_lt_of_le (hfp b hb).2 (Nat.le_of_succ_le h2)) (Nat.lt_irrefl _)
  ·rcases(hfp b hb).1.2.2.2.1 with z | z
   ·exact I.ok.noex b o e z
   ·exact absurd (Nat.lt_of_lt_of_le (Heap.lt_size e) (Nat.le_trans I.ok.bsz z)) (Nat.lt_irrefl _)
  ·rcases List.mem_cons.mp (I.ad6 b z)with z | z
   ·exact(hfp b hb).1.2.1 z
   ·exact(hfp b hb).1.2.2.1 z
 refine⟨okB,rfl,I.bare,Un.kept kp,⟨λ_=>none,?_,λi y av e1 e2 e3=>?_⟩,λy c e=>?_,?_,λy c e=>?_,λp hp=>?_,I.hok.kept kp,by rw[ako];exact I.len⟩
 ·show Heap.Ns _ cenv.locals _
  rw[hL]
  exact Heap.Ns.keeps (Heap.Ns.new ..) λb o e=>pushCells_keeps _ _ _ _ e
 ·obtain⟨e2,hne⟩:=akp e2
  have hfr:scope.names.lookup y=some .free/\(cenv.kindOf y=some .cell\/cenv.kindOf y=some .free):=by
   have key:∀k,cenv.scope.names.lookup y=some k->k=.local\/k=.cell\/k=.free->scope.names.lookup y=some .free/\(cenv.kindOf y=some .cell\/cenv.kindOf y=some .free):=λk hk hk'=>by
    have hk0:=hk
    rw[hsc]at hk
    obtain⟨k',e,r⟩:=ahp hk
    have no:¬(k'=.local\/k'=.cell):=λhh=>by
     rcases ok.own _ (PySem.mem_of_lookup e) hh with e' | e'
     ·obtain⟨p,hp,hpy⟩:=List.mem_map.mp e'
      have e3:=ok.ix p hp
      have:p.1=y:=hpy
      rw[this]at e3
      exact hne (List.mem_map.mpr ⟨p,hp,ahx hN e3 e1⟩)
     ·exact e' (List.mem_of_getElem? e1)
    rcases r with rfl | ⟨rfl,rfl⟩
    ·rcases hk' with rfl | rfl | rfl
     ·exact absurd (.inl rfl) no
     ·exact absurd (.inr rfl) no
     ·exact⟨e,.inr hk0⟩
    ·exact⟨e,.inl hk0⟩
   have e3:Vis cenv.scope y:=e3
   rcases e3 with e3 | e3 | e3
   ·exact key _ e3 (.inl rfl)
   ·exact key _ e3 (.inr (.inl rfl))
   ·exact key _ e3 (.inr (.inr rfl))
  obtain⟨m,hn,hl⟩:=I.loc
  have hvis:Vis X.env.scope y:=(ok.free _ (PySem.mem_of_lookup hfr.1) rfl).elim (λk=>.inr (.inl k)) (λk=>.inr (.inr k))
  obtain⟨w,r,q⟩:=hl i y av e1 e2 hvis
  refine⟨w,r,.inr ⟨hfr.2,?_⟩⟩
  obtain⟨c,h1,h2⟩:=look hfr.1
  rcases q with ⟨k,_⟩ | ⟨_,c',e',z⟩
  ·have k:X.env.scope.names.lookup y=some .local:=k
   rcases ok.free _ (PySem.mem_of_lookup hfr.1) rfl with k' | k'<;>rw[show X.env.scope.names.lookup y=_ from k']at k<;>cases k
  ·rw[h2]at e';cases e'
   exact⟨c,h1,z.keeps kp⟩
 ·have e:cenv.cells.lookup y=some c:=e
  rcases mem e with ⟨h1,_⟩ | ⟨_,z⟩
  ·obtain⟨w,z⟩:=I.cell y c h1
   exact⟨w,z.keeps kp⟩
  ·exact⟨_,z⟩
 ·show H cenv.locals=none
  rw[hL];exact I.hok.fresh (Nat.le_refl _)
 ·have e:cenv.cells.lookup y=some c:=e
  rcases mem e with ⟨h1,_⟩ | ⟨h1,_⟩
  ·exact I.freeC y c h1
  ·exact I.hok.fresh (Nat.le_of_succ_le h1)
 ·exact absurd (show p∈([]:List (Addr×Obj))++[]from hp) (by simp)
theorem as8{E:Value->Shared->Prop}{D:Addr}{xs:List V}{y:V}{v:Value}{Q:Value->Shared->Prop}(I:Inv X pins σ H s)(hD:H D=some (.lst xs))(hz:xs.length<sizeLine)(r:RelV y v)
  (h:∀s',Inv X pins σ (upd H D (.lst (xs++[y]))) s'->Q .none s'):wpAny (model X.prog X.w) X.A (call (.builtin "list.append") [.ref D,v]) Q E s:=by
 obtain⟨hz',its,n,ri,e⟩:=I.hok D _ hD
 have hl:=ri.length
 refine append_at (hsz:=by rw[List.size_toArray];omega) e λh' sb ho'=>?_
 refine h {s with heap:=h'} (I.write (t':=s.toks) (by rw[hD];trivial) (.inl rfl) (λb u hb q=>(sb.2 b hb).trans q) ⟨_,ho'⟩ ⟨by rw[List.length_append];exact hz,its++[v],n+1,ri.append (.cons r .nil),?_⟩)
 rw[ho']
 simp
def PTs(X:Cx)(ifs:List Expr)(t:TT):Prop :=
 ∀(pins:List (Addr×Obj)) (s:Shared) (σ:St) (H:Hp) (Q:Bool->Hp->Prop),Inv X pins σ H s->t σ H Q ->
  wpAny (model X.prog X.w) X.A (forIn ifs true λc r=>if r=true then do let ok <-isTrue c X.env (eval c X.env);pure (ForInStep.yield ok)else pure (ForInStep.yield r)) (TP X pins σ Q) X.xe s
def a3z:TT:=λ_ H Q=>Q true H
theorem aax:PTs X [] a3z:=λ_ _ _ H _ I h=>wpAny_tests_nil ⟨H,I,h⟩
theorem afk{c:Expr}{t:TT}(h:PT X c t):PTs X [c] t:=λpins s σ H Q I hw=>wpAny_tests_one (h pins s σ H Q I hw)
end
theorem acs{α:Type}{t:Sem α}{Q Q':α->Shared->Prop}{M:Model}{A:Around}{E:Value->Shared->Prop}{s:Shared}(h:wpAny M A t Q (λ_ _=>False) s)(hQ:∀a s,Q a s->Q' a s):wpAny M A t Q' E s:=wpAny_mono h hQ λ_ _ z=>False.elim z
theorem atu{prog:Program}{w:World}{A:Around}{R:Result->Shared->Prop}{s:Shared}{elt target iter:Expr}{ifs:List Expr}{scope:Scope}{pos:Pos}{it acc:Value}{env:Env}(I:Nat->Shared->Prop)
  (turn:∀n s,I n s->wpAny (model prog w) A (pyNext it) (λr s₁=>match r with
   | none=>R (.ok .next) s₁
   | some v=>wpAny (model prog w) A (letOwnedTupleGo target it v) (λ_ s₁'=>wpAny (model prog w) A (assign target env v) (λ_ s₂ =>
     wpAny (model prog w) A (forIn ifs true λc r=>if r=true then do let ok <-isTrue c env (eval c env);pure (ForInStep.yield ok)else pure (ForInStep.yield r)) (λok s₃ =>
      if ok=true then wpAny (model prog w) A (eval elt env) (λx s₄ =>
       wpAny (model prog w) A (call (.builtin "list.append") [acc,x]) (λ_ s₅=>∃m,m<n/\I m s₅) (notedBy (model prog w) A env λe s'=>R (.error e) s') s₄) (notedBy (model prog w) A env λe s'=>R (.error e) s') s₃
      else ∃m,m<n/\I m s₃) (notedBy (model prog w) A env λe s'=>R (.error e) s') s₂) (notedBy (model prog w) A env λe s'=>R (.error e) s') s₁') (notedBy (model prog w) A env λe s'=>R (.error e) s') s₁) (notedBy (model prog w) A env λe s'=>R (.error e) s') s)
  (n:Nat) (h:I n s) :
  codeAny (model prog w) A (.compLoop (.ListComp elt [⟨target,iter,ifs,0⟩] scope pos) 0 it acc env) R s:=by
 refine codeAny_loop rfl I (λn s hI=>?_) n h
 show wpAny _ A ((compTurn (.ListComp elt [⟨target,iter,ifs,0⟩] scope pos) 0 it acc env).onRaise (λx=>do noteFrame x env;theTreesLotGoes x)) _ _ s
 refine wpAny_noted ?_
 rw[compTurn_list]
 refine wpAny_bind (wpAny_standAt (wpAny_bind (wpAny_mono (turn n s hI) (λr s₁ h₁=>?_) λ_ _ h'=>h')))
 cases r with
 | none=>exact wpAny_pure h₁
 | some v =>
  refine wpAny_bind (wpAny_mono h₁ (λ_ s₁' h₁'=>?_) λ_ _ h'=>h')
  refine wpAny_bind (wpAny_mono h₁' (λ_ s₂ h₂=>wpAny_bind (wpAny_mono h₂ (λok s₃ h₃=>?_) λ_ _ h'=>h')) λ_ _ h'=>h')
  cases ok with
  | false=>exact wpAny_pure ⟨rfl,h₃⟩
  | true =>
   exact wpAny_bind (wpAny_bind (wpAny_mono h₃ (λx s₄ h₄=>wpAny_bind (wpAny_mono h₄ (λ_ s₅ h₅=>wpAny_pure (wpAny_pure ⟨rfl,h₅⟩)) λ_ _ h'=>h')) λ_ _ h'=>h'))
section
variable{X:Cx}
def tLc(wi:TI)(g:TG)(tt:TT)(te:TE)(vs:List Nat):TE:=λσ H Q=>wi σ H λJ H1=>∀D,H1 D=none->∃W:Nat->Nat->Hp->Prop,(∃m,W 0 m (upd H1 D (.lst [])))/\∀i m H,W i m H ->
 (J.stop i H/\Q (.ref D) H)\/(J.go i H/\∃Nx:Hp->Prop,(∀H',Nx H'->∃m',m'<m/\W (i+1) m' H')/\∀x H',J.yld i H x H'->g x (wipe σ vs) H' λσ2 H2=>wipe σ2 vs=wipe σ vs/\tt σ2 H2 λb H3 =>
  if b=true then te σ2 H3 λy H4=>∃acc,H4 D=some (.lst acc)/\acc.length<sizeLine/\Nx (upd H4 D (.lst (acc++[y])))else Nx H3)
theorem am3{pins:List (Addr×Obj)}{s:Shared}{σ:St}{H:Hp}{Q:VK}{elt tg iter:Expr}{ifs:List Expr}{scope:Scope}{own:List (Str×Nat)}{pos pos':Pos}{wi:TI}{g:TG}{tt:TT}{te:TE}{use:Option (Value->Sem Unit)}{Qf:Value->Shared->Prop}
  (hc:X.calm=true) (hN:X.N.Nodup) (I:Inv X pins σ H s) (hi:PI X tg iter wi) (ok:acz X.N X.env.scope scope own)
  (hg:∀(s:Shared) (H:Hp) (C:Addr) (cl:List (Str×Addr)) (fp:List Addr),PG (X.blk s H scope (compEnvC scope cl C X.env) fp) tg g) (ht:∀(s:Shared) (H:Hp) (C:Addr) (cl:List (Str×Addr)) (fp:List Addr),PTs (X.blk s H scope (compEnvC scope cl C X.env) fp) ifs tt)
  (he:∀(s:Shared) (H:Hp) (C:Addr) (cl:List (Str×Addr)) (fp:List Addr),PE (X.blk s H scope (compEnvC scope cl C X.env) fp) elt te) (hs:∀x,foldedSetIterable iter X.env x=pure x)
  (h:tLc wi g tt te (own.map (·.2)) σ H Q)
  (hRR:∀D C s' m H',Inv X pins σ H' s'->Q (.ref D) H'->s'.heap.Ns C m->vo X pins H' C->compPost (model X.prog X.w) X.A X.xe use Qf (.ref D) C (.ok .next) s') :
  wpAny (model X.prog X.w) X.A (comprehension (.ListComp elt [⟨tg,iter,ifs,0⟩] scope pos) scope X.env pos' (newList []) false (eval iter X.env) use) Qf X.xe s:=by
 have hfree:∀y∈scope.names,y.2=.free->∃c,X.env.cells.lookup y.1=some c:=λy hy e=>by
  rcases ok.free y hy e with k | k
  ·exact I.ok.has _ (.inl k)
  ·exact I.ok.has _ (.inr k)
 refine wpAny_comprehension_free (use:=use) rfl hs (atq hfree) ok.kind (λy hy e=>by rw[ok.uniq y hy,e])
  (thn (hi pins s σ H _ I h) λxv s1 hx=>thn hx λitv s2 h2=>?_)
 obtain⟨it,fp,tn,J,H2,e,I2,T,st2,f2,q⟩:=h2
 subst e
 refine wpAny_newObj_type (aw3 ?_) (by show 0<=sizeLine;decide)
 generalize hD:s2.heap.objs.size=D
 have hDn:H2 D=none:=I2.hok.fresh (Nat.le_of_eq hD)
 obtain⟨W,⟨m0,w0⟩,turn⟩:=q D hDn
 generalize hs3:({s2 with heap:=s2.heap.push {cls:=.type "list",data:=.seq ([]:List Value).toArray}}:Shared)=s3
 have I3:Inv X pins σ (upd H2 D (.lst [])) s3:=by
  rw[<-hs3]
  refine I2.laid (t':=s2.toks) (λb o e=>Heap.get?_push_of_some _ e) (Nat.le_of_eq hD) ⟨Nat.zero_le _,[],0,.nil,?_⟩
  rw[<-hD]
  exact Heap.get?_push_size _ rfl
 have h3:s3.heap=s2.heap.push {cls:=.type "list",data:=.seq ([]:List Value).toArray}:=by rw[<-hs3]
 have sz:∀b∈fp,b<s2.heap.objs.size:=λb hb=>by
  obtain⟨o,e,_⟩:=T.obj _ _ st2 b hb
  exact Heap.lt_size e
 have f3:∀b∈fp,vo X pins (upd H2 D (.lst [])) b/\b<s3.heap.objs.size:=λb hb=>by
  have hlt:=sz b hb
  refine⟨⟨?_,(f2 b hb).2⟩,by rw[h3,Heap.size_push];exact Nat.lt_succ_of_lt hlt⟩
  rw[ao (by rw[<-hD];exact Nat.ne_of_lt hlt)]
  exact(f2 b hb).1
 have st3:tn 0 s3.heap:=T.keep _ _ _ st2 λb _ o e=>by rw[h3];exact Heap.get?_push_of_some _ e
 have I4:=atg I3 ok hN f3
 have pg:=hg s3 (upd H2 D (.lst [])) s3.heap.objs.size (cellsFrom (s3.heap.objs.size+1) scope.names (m5 X.env.cells scope.names [])) fp
 have pt:=ht s3 (upd H2 D (.lst [])) s3.heap.objs.size (cellsFrom (s3.heap.objs.size+1) scope.names (m5 X.env.cells scope.names [])) fp
 have pe:=he s3 (upd H2 D (.lst [])) s3.heap.objs.size (cellsFrom (s3.heap.objs.size+1) scope.names (m5 X.env.cells scope.names [])) fp
 show codeAny _ _ (.compStart (.ListComp elt [⟨tg,iter,ifs,0⟩] scope pos) 0 (.ref it) (.ref D) (compEnvC scope (cellsFrom (s3.heap.objs.size+1) scope.names (m5 X.env.cells scope.names [])) s3.heap.objs.size X.env)) (compPost (model X.prog X.w) X.A X.xe use Qf (.ref D) s3.heap.objs.size) {s3 with heap:=pushCells (s3.heap.push {cls:=.type "dict",data:=.dict #[]}) scope.names}
 have nfp:∀b∈fp,(upd H2 D (.lst [])) b=none:=λb hb=>(f3 b hb).1.1
 generalize hce:compEnvC scope (cellsFrom (s3.heap.objs.size+1) scope.names (m5 X.env.cells scope.names [])) s3.heap.objs.size X.env=ce at I4 pg pt pe ⊢
 have cL:ce.locals=s3.heap.objs.size:=by subst hce;rfl
 generalize hH3:upd H2 D (.lst [])=H3 at I3 I4 pg pt pe w0 nfp f3
 generalize hs4:({s3 with heap:=pushCells (s3.heap.push {cls:=.type "dict",data:=.dict #[]}) scope.names}:Shared)=s4 at I4 ⊢
 have st4:tn 0 s4.heap:=T.keep _ _ _ st3 λb _ o e=>by rw[<-hs4];exact pushCells_keeps _ _ _ _ (Heap.get?_push_of_some _ e)
 have stat:∀{σ':St}{H':Hp}{s':Shared},Inv (X.blk s3 H3 scope ce fp) [] σ' H' s'->(∀b∈fp,H' b=none)->∀b∈fp,vo (X.blk s3 H3 scope ce fp) [] H' b:=λ{σ' H' s'} I' hn b hb =>
  ⟨hn b hb,(I'.ok.exf b hb).1,I'.ok.exfs b hb,.inl hb,λx c e=>(I'.ok.exf b hb).2 x c e,λp hp=>absurd (show p∈([]:List (Addr×Obj))++[]from hp) (by simp)⟩
 have loop:codeAny (model X.prog X.w) X.A (.compLoop (.ListComp elt [⟨tg,iter,ifs,0⟩] scope pos) 0 (.ref it) (.ref D) ce) (compPost (model X.prog X.w) X.A X.xe use Qf (.ref D) s3.heap.objs.size) s4:=by
  refine atu (λn s'=>∃i H',Inv (X.blk s3 H3 scope ce fp) [] (wipe σ (own.map (·.2))) H' s'/\tn i s'.heap/\(∀b∈fp,H' b=none)/\W i n H') ?_ m0 ⟨0,H3,I4,st4,nfp,w0⟩
  rintro n s5 ⟨i,H5,I5,st5,n5,w5⟩
  rcases turn i n H5 w5 with ⟨stop,qq⟩ | ⟨go,Nx,hNx,step⟩
  ·have td:=T.done (X.blk s3 H3 scope ce fp) rfl rfl rfl hc i [] s5 _ H5 (λ_ _=>False) I5 (stat I5 n5) st5 stop
   refine acs td λr s6 ⟨hr,I6⟩=>?_
   subst hr
   have I7:Inv X pins σ H5 s6:=I3.call' (ch:=fp) I6.os I6.base I6.hok I6.bare λb hb=>⟨(f3 b hb).1.2.2.2.1,(f3 b hb).1.2.1,(f3 b hb).1.2.2.2.2.1,(f3 b hb).1.2.2.2.2.2⟩
   have nC:H5 s3.heap.objs.size=none:=by
    have z:H5 ce.locals=none:=I6.free
    rw[cL]at z
    exact z
   obtain⟨m,hn,_⟩:=I6.loc
   have hn:s6.heap.Ns ce.locals m:=hn
   rw[cL]at hn
   exact hRR D s3.heap.objs.size s6 m H5 I7 qq hn (I3.abb (Nat.le_refl _) nC)
  ·have ti:=T.item (X.blk s3 H3 scope ce fp) rfl rfl rfl hc i [] s5 _ H5 (λ_ _=>False) I5 (stat I5 n5) st5 go
   refine acs ti λr s6 ⟨u,hr,h6⟩=>?_
   subst hr
   refine acs h6 λ_ s7 ⟨x,H7,I7,r7,y7,st7,n7⟩=>?_
   have I7':=I7.pinned (stat I7 n7) (T.obj _ _ st7)
   refine acs (pg _ s7 _ H7 x u _ I7' r7 (step x H7 y7)) λ_ s8 ⟨σ8,H8,I8,hw8,q8⟩=>?_
   refine acs (pt _ s8 σ8 H8 _ I8 q8) λb s9 ⟨H9,I9,q9⟩=>?_
   have fin:∀{s':Shared}{H':Hp},Inv (X.blk s3 H3 scope ce fp) ([]++ady fp s7.heap) σ8 H' s'->Nx H'->∃m,m<n/\∃i H',Inv (X.blk s3 H3 scope ce fp) [] (wipe σ (own.map (·.2))) H' s'/\tn i s'.heap/\(∀b∈fp,H' b=none)/\W i m H':=λ{s' H'} I' nx=>by
    obtain⟨m',hm,w'⟩:=hNx H' nx
    have pin':∀b∈fp,∀o,s7.heap.get? b=some o->s'.heap.get? b=some o/\H' b=none:=λb hb o e =>
     let z:=I'.pin (b,o) (List.mem_append_right _ (List.mem_append_right _ (aht hb e)))
     ⟨z.1,z.2.1⟩
    have hl:(wipe σ (own.map (·.2))).length=σ8.length:=by rw[<-hw8,ako]
    refine⟨m',hm,i+1,H',(I'.agf (pins:=[])).weak hl (λj v e=>?_),T.keep _ _ _ st7 λb hb o e=>(pin' b hb o e).1,λb hb=>?_,w'⟩
    ·rw[<-hw8]at e
     exact(akp e).1
    ·obtain⟨o,e,_⟩:=T.obj _ _ st7 b hb
     exact(pin' b hb o e).2
   cases b with
   | false =>
    simp only[Bool.false_eq_true,if_false]at q9 ⊢
    exact fin I9 q9
   | true =>
    simp only[if_true]at q9 ⊢
    refine acs (pe _ s9 σ8 H9 _ I9 q9) λz s10 ⟨yv,H10,I10,r10,acc,hD10,hz10,nx⟩=>?_
    exact as8 (X:=X.blk s3 H3 scope ce fp) I10 hD10 hz10 r10 λs11 I11=>fin I11 nx
 exact codeAny_compStart_list loop (T.self X.A 0 _ _ _ st4 loop)
theorem zr{elt tg iter:Expr}{ifs:List Expr}{scope:Scope}{own:List (Str×Nat)}{pos:Pos}{wi:TI}{g:TG}{tt:TT}{te:TE}(hc:X.calm=true)(hN:X.N.Nodup)(hi:PI X tg iter wi)(ok:acz X.N X.env.scope scope own)
  (hg:∀(s:Shared) (H:Hp) (C:Addr) (cl:List (Str×Addr)) (fp:List Addr),PG (X.blk s H scope (compEnvC scope cl C X.env) fp) tg g) (ht:∀(s:Shared) (H:Hp) (C:Addr) (cl:List (Str×Addr)) (fp:List Addr),PTs (X.blk s H scope (compEnvC scope cl C X.env) fp) ifs tt)
  (he:∀(s:Shared) (H:Hp) (C:Addr) (cl:List (Str×Addr)) (fp:List Addr),PE (X.blk s H scope (compEnvC scope cl C X.env) fp) elt te) (hs:∀x,foldedSetIterable iter X.env x=pure x:=by intro _;rfl) :
  PE X (.ListComp elt [⟨tg,iter,ifs,0⟩] scope pos) (tLc wi g tt te (own.map (·.2))):=by
 intro pins s σ H Q I h
 rw[eval_ListComp]
 refine am3 hc hN I hi ok hg ht he hs h λD C s' m H' I' q hn f=>⟨m,hn,λh'' sb=>?_⟩
 obtain⟨f0,f1,f2,f3,f4,f5⟩:=f
 exact⟨.ref D,H',I'.turned (t':=s'.toks) (λb o hb e=>(sb.2 b hb).trans e) f0 f1 f3 f4 f5,rfl,q⟩
theorem aif{i:Nat}{y:Str}{py:Pos}{elt tg iter:Expr}{ifs:List Expr}{scope:Scope}{own:List (Str×Nat)}{pos spos:Pos}{wi:TI}{g:TG}{tt:TT}{te:TE}(hc:X.calm=true)(hN:X.N.Nodup)(hy:X.N[i]? = some y)(hyl:X.env.scope.names.lookup y=some .local)
  (hsw:swapsWith (.ListComp elt [⟨tg,iter,ifs,0⟩] scope pos) (some (.Name y py)) spos.line X.env=pure true) (hi:PI X tg iter wi) (ok:acz X.N X.env.scope scope own)
  (hg:∀(s:Shared) (H:Hp) (C:Addr) (cl:List (Str×Addr)) (fp:List Addr),PG (X.blk s H scope (compEnvC scope cl C X.env) fp) tg g) (ht:∀(s:Shared) (H:Hp) (C:Addr) (cl:List (Str×Addr)) (fp:List Addr),PTs (X.blk s H scope (compEnvC scope cl C X.env) fp) ifs tt)
  (he:∀(s:Shared) (H:Hp) (C:Addr) (cl:List (Str×Addr)) (fp:List Addr),PE (X.blk s H scope (compEnvC scope cl C X.env) fp) elt te) (hs:∀x,foldedSetIterable iter X.env x=pure x:=by intro _;rfl) :
  PS X (.Assign [.Name y py] (.ListComp elt [⟨tg,iter,ifs,0⟩] scope pos) spos) (arh (tLc wi g tt te (own.map (·.2))) (ade i)):=by
 intro pins s σ H D I h
 rw[exec_Assign_Name_used _ _ _ _ hsw]
 refine wpAny_bind (wpAny_standAt (wpAny_bind ?_))
 show wpAny _ X.A (do let _ <-comprehension (.ListComp elt [⟨tg,iter,ifs,0⟩] scope pos) scope X.env (firstIterPos [⟨tg,iter,ifs,0⟩] pos) (newList []) false (eval iter X.env) (some (assign (.Name y py) X.env))) _ _ s
 have h:tLc wi g tt te (own.map (·.2)) σ H (λx H1=>ade i x σ H1 D.nx):=h
 refine wpAny_bind (thn (am3 (Qf:=λ_ s'=>SP X pins D .next s') hc hN I hi ok hg ht he hs h λL C s' m H' I' q hn f=>?_) λ_ s' hq=>wpAny_pure (wpAny_pure hq))
 show wpAny _ _ (assign (.Name y py) X.env (.ref L)) _ _ _
 refine wpAny_assign_Name (arf (v:=V.ref L) I' hN hy (.inl hyl) rfl (λs2 I2 ⟨a,sb,ha⟩=>?_) (.inr hyl))
 obtain⟨f0,f1,f2,f3,f4,f5⟩:=f
 have haC:C≠a:=by
  rcases ha with z | z
  ·rw[z];exact f1
  ·exact λe=>f4 y a z e.symm
 refine⟨m,hn.sameBut sb haC,λh3 sb3=>?_⟩
 exact⟨_,H',I2.turned (t':=s2.toks) (λb o hb e=>(sb3.2 b hb).trans e) f0 f1 f3 f4 f5,q⟩
theorem aki{elt:Expr}{gs:List Comprehension}{scope:Scope}{pos py:Pos}{y:Str}{l:Nat}{env:Env}(hk:env.scope.kind=.function)(hy:env.scope.names.lookup y=some .local)(hl:(py.line==pos.line)=true)
  (ha:(scope.names.any λ(n,k)=>n==y&&(k == .local||k == .cell))=false):swapsWith (.ListComp elt gs scope pos) (some (.Name y py)) l env=pure true:=by
 have ky:env.kindOf y=some .local:=hy
 have hb:env.blockKind=.function:=by unfold Env.blockKind;rw[hk];rfl
 unfold swapsWith
 simp only[hb,ky,ha,Expr.pos,hl]
 rfl
end
theorem awb{lo:Int}{n:Nat}{g:TG}{tt:TT}{te:TE}{vs:List Nat}{σ:St}{H1:Hp}{D:Addr}{Qd:Hp->Prop}(Pv:Nat->Hp->Prop)(h0:Pv 0 (upd H1 D (.lst [])))
  (hs:∀i H,i<n->Pv i H->g (.int (lo+i)) (wipe σ vs) H λσ2 H2=>wipe σ2 vs=wipe σ vs/\tt σ2 H2 λb H3 =>
   if b=true then te σ2 H3 λy H4=>∃acc,H4 D=some (.lst acc)/\acc.length<sizeLine/\Pv (i+1) (upd H4 D (.lst (acc++[y])))else Pv (i+1) H3) (hd:∀H,Pv n H->Qd H) :
  ∃W:Nat->Nat->Hp->Prop,(∃m,W 0 m (upd H1 D (.lst [])))/\∀i m H,W i m H ->
   ((Itr lo n).stop i H/\Qd H)\/((Itr lo n).go i H/\∃Nx:Hp->Prop,(∀H',Nx H'->∃m',m'<m/\W (i+1) m' H')/\∀x H',(Itr lo n).yld i H x H'->g x (wipe σ vs) H' λσ2 H2=>wipe σ2 vs=wipe σ vs/\tt σ2 H2 λb H3 =>
    if b=true then te σ2 H3 λy H4=>∃acc,H4 D=some (.lst acc)/\acc.length<sizeLine/\Nx (upd H4 D (.lst (acc++[y])))else Nx H3):=by
 refine⟨λi m H=>m=n-i/\i<=n/\Pv i H,⟨n,by simp,Nat.zero_le _,h0⟩,?_⟩
 rintro i m H ⟨rfl,hi,p⟩
 by_cases hlt:i<n
 ·refine .inr ⟨hlt,Pv (i+1),λH' p'=>⟨n-(i+1),by omega,rfl,hlt,p'⟩,λx H' y=>?_⟩
  obtain⟨e,y⟩:=y
  subst e y
  exact hs i _ hlt p
 ·have e:i=n:=by omega
  subst e
  exact .inl ⟨Nat.le_refl _,hd H p⟩
theorem aez{K:PySem.W.Frag}{a:Addr}{xs:List V}{g:TG}{tt:TT}{te:TE}{vs:List Nat}{σ:St}{H1:Hp}{D:Addr}{Qd:Hp->Prop}(Pv:Nat->Hp->Prop)(h0:Pv 0 (upd H1 D (.lst [])))(hl:∀i H,i<=xs.length->Pv i H->SqL K H a xs)
  (hs:∀i x H,xs[i]? = some x->Pv i H->g x (wipe σ vs) H λσ2 H2=>wipe σ2 vs=wipe σ vs/\tt σ2 H2 λb H3 =>
   if b=true then te σ2 H3 λy H4=>∃acc,H4 D=some (.lst acc)/\acc.length<sizeLine/\Pv (i+1) (upd H4 D (.lst (acc++[y])))else Pv (i+1) H3) (hd:∀H,Pv xs.length H->Qd H) :
  ∃W:Nat->Nat->Hp->Prop,(∃m,W 0 m (upd H1 D (.lst [])))/\∀i m H,W i m H ->
   ((Itl K a).stop i H/\Qd H)\/((Itl K a).go i H/\∃Nx:Hp->Prop,(∀H',Nx H'->∃m',m'<m/\W (i+1) m' H')/\∀x H',(Itl K a).yld i H x H'->g x (wipe σ vs) H' λσ2 H2=>wipe σ2 vs=wipe σ vs/\tt σ2 H2 λb H3 =>
    if b=true then te σ2 H3 λy H4=>∃acc,H4 D=some (.lst acc)/\acc.length<sizeLine/\Nx (upd H4 D (.lst (acc++[y])))else Nx H3):=by
 refine⟨λi m H=>m=xs.length-i/\i<=xs.length/\Pv i H,⟨xs.length,by simp,Nat.zero_le _,h0⟩,?_⟩
 rintro i m H ⟨rfl,hi,p⟩
 have q:=hl i H hi p
 by_cases hlt:i<xs.length
 ·refine .inr ⟨⟨xs,xs[i],q,by simp[hlt]⟩,Pv (i+1),λH' p'=>⟨xs.length-(i+1),by omega,rfl,hlt,p'⟩,λx H' y=>?_⟩
  obtain⟨e,y⟩:=y
  subst e
  exact hs i x _ (y xs q) p
 ·have e:i=xs.length:=by omega
  subst e
  exact .inl ⟨⟨xs,q,Nat.le_refl _⟩,hd H p⟩
def ale(N:List Str)(sc scope:Scope)(own:List (Str×Nat)):Bool :=
 (match scope.kind with | .function=>true | _=>false)&&(scope.names.all λy=>decide (scope.names.lookup y.1=some y.2))&&(own.all λp=>decide (N[p.2]? = some p.1)) &&
  (scope.names.all λy=>match y.2 with
   | .free=>(match sc.names.lookup y.1 with | some .cell=>true | some .free=>true | _=>false)
   | .local=>decide (y.1∈own.map (·.1))||decide (y.1∉N)
   | .cell=>decide (y.1∈own.map (·.1))||decide (y.1∉N)
   | _=>true)
theorem vp{N:List Str}{sc scope:Scope}{own:List (Str×Nat)}(h:ale N sc scope own=true):acz N sc scope own:=by
 unfold ale at h
 simp only[Bool.and_eq_true,List.all_eq_true,decide_eq_true_eq]at h
 obtain⟨⟨⟨h1,h2⟩,h3⟩,h4⟩:=h
 refine⟨?_,h2,h3,λy hy e=>?_,λy hy e=>?_⟩
 ·split at h1
  ·assumption
  ·cases h1
 ·have q:=h4 y hy
  simp only[e]at q
  split at q<;>first | exact .inl (by assumption) | exact .inr (by assumption) | cases q
 ·have q:=h4 y hy
  rcases e with e | e<;>(simp only[e,Bool.or_eq_true,decide_eq_true_eq]at q;exact q)
section
variable{κ:Type}[DecidableEq κ]
def jd(kvs:List (κ×V))(k:κ):Option V:=(kvs.find? λkv=>decide (kv.1=k)).map (·.2)
def putK(kvs:List (κ×V))(k:κ)(v:V):List (κ×V) :=
 if (kvs.any λkv=>decide (kv.1=k))=true then kvs.map (λkv=>if kv.1=k then(kv.1,v)else kv)else kvs++[(k,v)]
theorem xf{p:κ×V}{r:List (κ×V)}{k:κ}(e:p.1=k):jd (p::r) k=some p.2:=by simp[jd,List.find?_cons,e]
theorem w6{p:κ×V}{r:List (κ×V)}{k:κ}(e:¬p.1=k):jd (p::r) k=jd r k:=by simp[jd,List.find?_cons,e]
theorem acx(k:κ):∀kvs:List (κ×V),(kvs.any λkv=>decide (kv.1=k))=(jd kvs k).isSome
 | []=>rfl
 | p::r=>by
  rw[List.any_cons]
  by_cases e:p.1=k
  ·simp only[xf e,decide_eq_true e,Bool.true_or,Option.isSome_some]
  ·rw[w6 e,decide_eq_false e,Bool.false_or];exact acx k r
theorem ar6(k j:κ)(y:V):∀kvs:List (κ×V),jd (kvs.map λkv=>if kv.1=k then(kv.1,y)else kv) j=(jd kvs j).map λx=>if j=k then y else x
 | []=>rfl
 | p::r=>by
  have ih:=ar6 k j y r
  rw[List.map_cons]
  by_cases h:p.1=k
  ·rw[if_pos h]
   by_cases e:p.1=j
   ·rw[xf (p:=(p.1,y)) e,xf e,Option.map_some,if_pos (e.symm.trans h)]
   ·rw[w6 (p:=(p.1,y)) e,w6 e,ih]
  ·rw[if_neg h]
   by_cases e:p.1=j
   ·rw[xf (p:=p) e,xf e,Option.map_some,if_neg (λz=>h (e.trans z))]
   ·rw[w6 (p:=p) e,w6 e,ih]
theorem ar9(k j:κ)(y:V):∀kvs:List (κ×V),jd kvs k=none->jd (kvs++[(k,y)]) j=if j=k then some y else jd kvs j
 | [],_=>by
  by_cases e:k=j
  ·rw[if_pos e.symm];exact xf (p:=(k,y)) e
  ·rw[if_neg (λz=>e z.symm)];exact w6 (p:=(k,y)) e
 | p::r,hn=>by
  rw[List.cons_append]
  have hk:¬p.1=k:=λz=>by rw[xf z]at hn;cases hn
  rw[w6 hk]at hn
  have ih:=ar9 k j y r hn
  by_cases e:p.1=j
  ·rw[xf e,xf e,if_neg (λz=>hk (e.trans z))]
  ·rw[w6 e,w6 e,ih]
theorem ar8(kvs:List (κ×V))(k j:κ)(y:V):jd (putK kvs k y) j=if j=k then some y else jd kvs j:=by
 unfold putK
 by_cases a:(kvs.any λkv=>decide (kv.1=k))=true
 ·rw[if_pos a,ar6]
  rw[acx]at a
  by_cases e:j=k
  ·obtain⟨x,hx⟩:=Option.isSome_iff_exists.mp a
   rw[if_pos e,e,hx,Option.map_some,if_pos rfl]
  ·rw[if_neg e]
   cases jd kvs j with
   | none=>rfl
   | some x=>rw[Option.map_some,if_neg e]
 ·rw[if_neg a]
  refine ar9 k j y kvs ?_
  rw[acx]at a
  cases q:jd kvs k with
  | none=>rfl
  | some x=>rw[q]at a;exact(a rfl).elim
theorem ae0(kvs:List (κ×V))(k:κ)(v:V):(putK kvs k v).length<=kvs.length+1:=by
 unfold putK
 split
 ·rw[List.length_map];omega
 ·rw[List.length_append,List.length_cons,List.length_nil];omega
theorem a0o{kvs:List (κ×V)}{k:κ}(v:V)(h:jd kvs k=none):putK kvs k v=kvs++[(k,v)]:=by
 unfold putK
 rw[acx,h]
 exact if_neg (by decide)
theorem mz.avo{o:Option V}{u:Option Value}(r:mz o u):o.isSome=u.isSome:=by
 cases o with
 | none=>cases u with
  | none=>rfl
  | some _=>exact(show False from r).elim
 | some _=>cases u with
  | none=>exact(show False from r).elim
  | some _=>rfl
theorem mz.getD{o:Option V}{u:Option Value}{d:V}{d':Value}(r:mz o u)(rd:RelV d d'):RelV (o.getD d) (u.getD d'):=by
 cases o with
 | none=>cases u with
  | none=>exact rd
  | some _=>exact(show False from r).elim
 | some _=>cases u with
  | none=>exact(show False from r).elim
  | some _=>exact r
theorem KV.val{kvs:List (κ×V)}{vs:List (κ×Value)}(r:KV kvs vs)(k:κ):mz (jd kvs k) (valueAt vs k):=by
 unfold KV at r
 induction r with
 | nil=>exact True.intro
 | @cons p q ps qs h t ih =>
  obtain⟨h1,h2⟩:=h
  by_cases e:p.1=k
  ·have e':q.1=k:=h1.symm.trans e
   have b:valueAt (q::qs) k=some q.2:=by simp[valueAt,List.find?_cons,e']
   rw[xf e,b];exact h2
  ·have e':¬q.1=k:=λz=>e (h1.trans z)
   have b:valueAt (q::qs) k=valueAt qs k:=by simp[valueAt,List.find?_cons,e']
   rw[w6 e,b];exact ih
theorem KV.any{kvs:List (κ×V)}{vs:List (κ×Value)}(r:KV kvs vs)(k:κ):(kvs.any λkv=>decide (kv.1=k))=vs.any λkv=>decide (kv.1=k):=by
 unfold KV at r
 induction r with
 | nil=>rfl
 | cons h t ih=>rw[List.any_cons,List.any_cons,ih,h.1]
theorem KV.repl{kvs:List (κ×V)}{vs:List (κ×Value)}(r:KV kvs vs)(k:κ){y:V}{u:Value}(ry:RelV y u):
  KV (kvs.map λkv=>if kv.1=k then(kv.1,y)else kv) (vs.map λkv=>if kv.1=k then(kv.1,u)else kv):=by
 unfold KV at r ⊢
 induction r with
 | nil=>exact .nil
 | @cons p q ps qs h t ih =>
  rw[List.map_cons,List.map_cons]
  refine .cons ?_ ih
  obtain⟨h1,h2⟩:=h
  by_cases e:p.1=k
  ·rw[if_pos e,if_pos (h1.symm.trans e)];exact⟨h1,ry⟩
  ·rw[if_neg e,if_neg (λz=>e (h1.trans z))];exact⟨h1,h2⟩
theorem KV.put{kvs:List (κ×V)}{vs:List (κ×Value)}(r:KV kvs vs)(k:κ){y:V}{u:Value}(ry:RelV y u):KV (putK kvs k y) (stored vs k u):=by
 unfold putK stored
 rw[r.any k]
 by_cases e:(vs.any λkv=>decide (kv.1=k))=true
 ·rw[if_pos e,if_pos e];exact r.repl k ry
 ·rw[if_neg e,if_neg e];exact Paired.snoc r ⟨rfl,ry⟩
theorem KV.length{kvs:List (κ×V)}{vs:List (κ×Value)}(r:KV kvs vs):kvs.length=vs.length:=Paired.length r
end
theorem adh{P:Program}{w:World}{k:Key}{u:Value}(r:RelV (kV k) u):(jz P w).is k u=true:=by
 cases k with
 | inl i=>obtain⟨t,e⟩:=(show ∃t,u=Value.int i t from r);subst e;exact awz P w i t
 | inr x=>obtain⟨t,e⟩:=(show ∃t,u=Value.str x t from r);subst e;exact aw0 P w x t
theorem amy{P:Program}{w:World}:∀{ks:List Key}{us:List Value},Vals (ks.map kV) us->ItemsAre (jz P w) ks us
 | [],_,r=>by rw[List.map_nil]at r;cases r;exact .nil
 | k::ks,_,r=>by
  rw[List.map_cons]at r
  cases r with
  | cons h t=>exact .cons (adh h) (amy t)
abbrev KT(H:Hp):List (List Key×V)->List (List Key×Addr×Value)->Prop:=Paired λp q=>p.1=q.1/\H q.2.1=some (.tup (p.1.map kV))/\RelV p.2 q.2.2
theorem KT.val{H:Hp}{kvs:List (List Key×V)}{xs:List (List Key×Addr×Value)}(r:KT H kvs xs)(k:List Key):mz (jd kvs k) ((atKey xs k).map (·.2)):=by
 induction r with
 | nil=>exact True.intro
 | @cons p q ps qs h t ih =>
  obtain⟨h1,_,h2⟩:=h
  by_cases e:p.1=k
  ·have e':q.1=k:=h1.symm.trans e
   have b:atKey (q::qs) k=some q.2:=by simp[atKey,List.find?_cons,e']
   rw[xf e,b];exact h2
  ·have e':¬q.1=k:=λz=>e (h1.trans z)
   have b:atKey (q::qs) k=atKey qs k:=by simp[atKey,List.find?_cons,e']
   rw[w6 e,b];exact ih
theorem KT.repl{H:Hp}{kvs:List (List Key×V)}{xs:List (List Key×Addr×Value)}(r:KT H kvs xs)(k:List Key){y:V}{u:Value}(ry:RelV y u):
  KT H (kvs.map λkv=>if kv.1=k then(kv.1,y)else kv) (xs.map (putAt k u)):=by
 induction r with
 | nil=>exact .nil
 | @cons p q ps qs h t ih =>
  rw[List.map_cons,List.map_cons]
  refine .cons ?_ ih
  obtain⟨h1,h2,h3⟩:=h
  unfold putAt
  by_cases e:p.1=k
  ·rw[if_pos e,if_pos (h1.symm.trans e)];exact⟨h1,h2,ry⟩
  ·rw[if_neg e,if_neg (λz=>e (h1.trans z))];exact⟨h1,h2,h3⟩
theorem KT.put{H:Hp}{kvs:List (List Key×V)}{xs:List (List Key×Addr×Value)}(r:KT H kvs xs)(k:List Key){b:Addr}{y:V}{u:Value}(hb:H b=some (.tup (k.map kV)))(ry:RelV y u):
  KT H (putK kvs k y) (storedH xs k b u):=by
 have e:(kvs.any λkv=>decide (kv.1=k))=(atKey xs k).isSome:=by
  rw[acx,(r.val k).avo,Option.isSome_map]
 unfold putK storedH
 rw[e]
 by_cases q:(atKey xs k).isSome=true
 ·rw[if_pos q,if_pos q];exact r.repl k ry
 ·rw[if_neg q,if_neg q];exact Paired.snoc r ⟨rfl,hb,ry⟩
theorem KT.keeps{H H':Hp}{kvs:List (List Key×V)}{xs:List (List Key×Addr×Value)}(r:KT H kvs xs)(ht:∀b ys,H b=some (.tup ys)->H' b=some (.tup ys)):KT H' kvs xs :=
 Paired.ahr r λ_ _ z=>⟨z.1,ht _ _ z.2.1,z.2.2⟩
section
variable{P:Program}{w:World}{H:Hp}{h:Heap}{a:Addr}
theorem aoo{u:HO}(ok:HOk P w H h)(e:Rd H a u):gq P w H h a u:=e.ok ok
theorem ac7{kvs:List (Key×V)}(ok:HOk P w H h)(e:Rd H a (.dK kvs)):kvs.length<=sizeLine/\(a==sysModules)=false/\∃vs,KV kvs vs/\h.DictOf (jz P w) a vs :=
 show gq P w H h a (.dK kvs) from aoo ok e
theorem aui{kvs:List (Key×V)}(ok:HOk P w H h)(e:H a=some (.dK kvs)):kvs.length<=sizeLine/\(a==sysModules)=false/\∃vs,KV kvs vs/\h.DictOf (jz P w) a vs:=ac7 ok (.inl e)
theorem aex{ks:List Key}(ok:HOk P w H h)(e:H a=some (.tup (ks.map kV))):(tupleKind (jz P w)).is h ks a:=by
 obtain⟨_,its,r,o,h1,h2,n,h3⟩:=(show gq P w H h a (.tup (ks.map kV)) from ok a _ e)
 exact⟨o,its.toArray,n,h1,h2,h3,by simpa using amy r⟩
theorem ac9{kvs:List (List Key×V)}(ok:HOk P w H h)(e:Rd H a (.dT kvs)):kvs.length<=sizeLine/\(a==sysModules)=false /\
  ∃xs,KT H kvs xs/\h.DictOfH (tupleKind (jz P w)) a xs:=by
 obtain⟨z,y,xs,r,o,es,ep,h1,h2,h3,h4,h5⟩:=(show gq P w H h a (.dT kvs) from aoo ok e)
 refine⟨z,y,xs,r,o,es,ep,h1,h2,h3,h4,λx hx=>?_,h5⟩
 have all:∀{l:List (List Key×V)}{m:List (List Key×Addr×Value)},KT H l m->∀x∈m,(tupleKind (jz P w)).is h x.1 x.2.1:=by
  intro l m q
  induction q with
  | nil=>intro x hx;exact nomatch hx
  | @cons p q ps qs hq t ih =>
   intro x hx
   rcases List.mem_cons.mp hx with e | hx
   ·subst e
    exact aex ok (by rw[<-hq.1];exact hq.2.1)
   ·exact ih x hx
 exact all r x hx
theorem auj{kvs:List (List Key×V)}(ok:HOk P w H h)(e:H a=some (.dT kvs)):kvs.length<=sizeLine/\(a==sysModules)=false /\
  ∃xs,KT H kvs xs/\h.DictOfH (tupleKind (jz P w)) a xs:=ac9 ok (.inl e)
end
def z7(H:Hp)(a:Addr)(y:V)(r:Option V):Prop :=
 (∃kvs k,Rd H a (.dK kvs)/\y=kV k/\r=jd kvs k)\/∃kvs k b,Rd H a (.dT kvs)/\y=.ref b/\H b=some (.tup (k.map kV))/\r=jd kvs k
def abx(H:Hp)(a:Addr)(y v:V)(H':Hp):Prop :=
 (∃kvs k,H a=some (.dK kvs)/\y=kV k/\kvs.length<sizeLine/\H'=upd H a (.dK (putK kvs k v))) \/
 ∃kvs k b,H a=some (.dT kvs)/\y=.ref b/\H b=some (.tup (k.map kV))/\kvs.length<sizeLine/\H'=upd H a (.dT (putK kvs k v))
theorem z7.k{H:Hp}{a:Addr}{kvs:List (Key×V)}{k:Key}(e:H a=some (.dK kvs)):z7 H a (kV k) (jd kvs k):=.inl ⟨kvs,k,.inl e,rfl,rfl⟩
theorem abx.k{H:Hp}{a:Addr}{kvs:List (Key×V)}{k:Key}{v:V}(e:H a=some (.dK kvs))(hl:kvs.length<sizeLine):abx H a (kV k) v (upd H a (.dK (putK kvs k v))):=.inl ⟨kvs,k,e,rfl,hl,rfl⟩
section
variable{X:Cx}{pins:List (Addr×Obj)}{σ:St}{H:Hp}{s:Shared}{a:Addr}{y v:V}{u r:Value}{o:Option V}{A:Around}{E:Value->Shared->Prop}
theorem Inv.big(I:Inv X pins σ H s):sysModules<s.heap.objs.size:=by
 have h:mainGlobals<s.heap.objs.size:=(I.mod.glob.keeps I.bk).lt
 exact Nat.lt_trans (by decide) h
theorem at8{Q:Value->Shared->Prop}(hu:A.units+1<cLine)(I:Inv X pins σ H s)(g:z7 H a y (some v))(ry:RelV y u)(h:∀w' s',Inv X pins σ H s'->RelV v w'->Q w' s'):
  wpAny (model X.prog X.w) A (getItem (.ref a) u) Q E s:=by
 rcases g with ⟨kvs,k,e,ey,l⟩ | ⟨kvs,k,b,e,ey,eb,l⟩
 ·subst ey
  obtain⟨z,hd,vs,rel,dd⟩:=ac7 I.hok e
  obtain⟨w',hw,rw'⟩:=mz.some_of (v:=v) (o:=valueAt vs k) (by rw[l];exact rel.val k)
  exact wpAny_getItem_of (adh ry) dd.mapOf hw (h w' _ (I.tok _) rw')
 ·subst ey
  cases(show u=Value.ref b from ry)
  obtain⟨z,hd,xs,rel,dd⟩:=ac9 I.hok e
  obtain⟨w',hw,rw'⟩:=mz.some_of (v:=v) (o:=(atKey xs k).map (·.2)) (by rw[l];exact rel.val k)
  obtain⟨p,hp,hp2⟩:=Option.map_eq_some_iff.mp hw
  refine wpAny_getItem_heap (tupleKind_room_in1 hu) (aex I.hok eb) dd hp ?_
  rw[hp2]
  exact h w' _ (I.tok _) rw'
theorem als{h':Heap}{t':Nat}{ob:HO}(I:Inv X pins σ H s)(mu:Mut (H a))(hs:Heap.SameBut a s.heap h')(he:∃q,h'.get? a=some q)(new:gq X.prog X.w (upd H a ob) h' a ob):
  Inv X pins σ (upd H a ob) {s with heap:=h',toks:=t'} :=
 I.write (x:=a) (e:=a) mu (.inl rfl) (λb q hb z=>(hs.2 b hb).trans z) he new
theorem auh{P:Program}{w:World}{H':Hp}{h':Heap}{kvs:List (Key×V)}{vs:List (Key×Value)}(z:kvs.length<=sizeLine)(hd:(a==sysModules)=false)(rel:KV kvs vs)(dd:h'.DictOf (jz P w) a vs):
  gq P w H' h' a (.dK kvs):=⟨z,hd,vs,rel,dd⟩
theorem at9{H':Hp}{Q:Unit->Shared->Prop}(hu:A.units+1<cLine)(I:Inv X pins σ H s)(g:abx H a y v H')(ry:RelV y u)(rv:RelV v r)(h:∀s',Inv X pins σ H' s'->Q () s'):
  wpAny (model X.prog X.w) A (setItem (.ref a) u r) Q E s:=by
 rcases g with ⟨kvs,k,e,ey,l,eH⟩ | ⟨kvs,k,b,e,ey,eb,l,eH⟩
 ·subst ey eH
  obtain⟨z,hd,vs,rel,dd⟩:=aui I.hok e
  have hz:vs.length<=sizeLine:=by rw[<-rel.length];exact z
  have hl:(putK kvs k v).length<=sizeLine:=by have:=ae0 kvs k v;omega
  refine wpAny_setItem_pairs (hsz:=hz) (adh ry) dd λh' dd' hs=>h _ ?_
  have he:∃q,h'.get? a=some q:=let ⟨q,_,_,hq,_⟩:=dd';⟨q,hq⟩
  exact als I (by rw[e];exact True.intro) hs he (auh hl hd (rel.put k rv) dd')
 ·subst ey eH
  cases(show u=Value.ref b from ry)
  obtain⟨z,hd,xs,rel,dd⟩:=auj I.hok e
  have hz:xs.length<=sizeLine:=by rw[<-Paired.length rel];exact z
  have hl:(putK kvs k v).length<=sizeLine:=by have:=ae0 kvs k v;omega
  refine wpAny_setItem_heap (hsz:=hz) (tupleKind_room_in1 hu) (aex I.hok eb) dd λh' dd' hs=>h _ ?_
  obtain⟨q,es,ep,hq,h2,h3,h4,_,h5⟩:=dd'
  refine als I (by rw[e];exact True.intro) hs ⟨q,hq⟩ ⟨hl,hd,_,(rel.put k eb rv).keeps λc ys ec=>?_,q,es,ep,hq,h2,h3,h4,h5⟩
  rw[ao (gb ec e (λz=>nomatch z))]
  exact ec
end
def aky(i:Expr):Prop:=∀ov iv,subscripted i false ov iv=operate [ov,iv] (getItem ov iv)
theorem a3i{prog:Program}{w:World}{A:Around}{E:Value->Shared->Prop}{s:Shared}{env:Env}{value slice:Expr}{pos:Pos}{T id:String}{Q:Value->Shared->Prop}
  (hl:typeLookup (.type T) "__getitem__" = pure (some (.builtin id))) (hs:aky slice)
  (h:wpAny (model prog w) A (eval value env) (λo s₁=>wpAny (model prog w) A (eval slice env) (λi s₂=>s₂.TypeIs o T/\wpAny (model prog w) A (getItem o i) Q E s₂) E s₁) E s) :
  wpAny (model prog w) A (eval (.Subscript value slice pos) env) Q E s:=by
 refine Subscript_ (wpAny_mono h (λo s₁ h₁=>wpAny_mono h₁ (λi s₂ h₂=>?_) λ_ _ x=>x) λ_ _ x=>x)
 obtain⟨hT,h₂⟩:=h₂
 unfold subscriptTail
 refine wpAny_bind ?_
 rw[getitemInPython_of_ne hT.not_modules]
 refine wpAny_bind (wpAny_specialOf hT hl ?_)
 have fin:wpAny (model prog w) A (subscripted slice false o i) (λr s₃=>wpAny (model prog w) A (letTemporaryGo value o r >>= λ_=>pure r) Q E s₃) E s₂:=by
  rw[hs o i]
  exact wpAny_operating (wpAny_mono h₂ (λr s₃ h₃=>wpAny_bind (wpAny_letTemporaryGo (wpAny_pure h₃))) λ_ _ x=>x)
 first
  | exact wpAny_pure (wpAny_bind fin)
  | exact wpAny_bind (wpAny_pure (wpAny_bind fin))
  | exact wpAny_bind fin
theorem aud{X:Cx}{pins:List (Addr×Obj)}{σ:St}{H:Hp}{s:Shared}{a:Addr}{y:V}{o:Option V}(I:Inv X pins σ H s)(g:z7 H a y o):s.TypeIs (.ref a) "dict" := by
 rcases g with ⟨kvs,k,e,_,_⟩ | ⟨kvs,k,b,e,_,_,_⟩
 ·obtain⟨_,_,vs,_,dd⟩:=ac7 I.hok e
  exact dd.typeIs
 ·obtain⟨_,_,xs,_,dd⟩:=ac9 I.hok e
  exact dd.typeIs
def akj(td ty:TE):TE:=λσ H Q=>td σ H λx H1=>ty σ H1 λy H2=>∃a v,x=.ref a/\z7 H2 a y (some v)/\Q v H2
def a08(td ty tv:TE):TS:=λD σ H=>tv σ H λv H1=>td σ H1 λx H2=>ty σ H2 λy H3=>∃a H4,x=.ref a/\abx H3 a y v H4/\D.nx σ H4
section
variable{X:Cx}{o i e value:Expr}{pos pos' tpos:Pos}{td ty tv:TE}
theorem an3(hu:X.A.units+1<cLine)(ho:PE X o td)(hi:PE X i ty)(hs:aky i):PE X (.Subscript o i pos) (akj td ty):=by
 intro pins s σ H Q I h
 refine a3i PySem.F.slot_dict_getitem.lookup hs (thn (ho pins s σ H _ I h) λu s1 ⟨x,H1,I1,rx,q1⟩=>thn (hi pins s1 σ H1 _ I1 q1) λiv s2 ⟨y,H2,I2,ry,a,v,ex,g,q2⟩=>?_)
 subst ex
 obtain rfl:u=Value.ref a:=rx
 exact⟨aud I2 g,at8 hu I2 g ry λw' s3 I3 rw'=>⟨v,H2,I3,rw',q2⟩⟩
theorem aoi(hu:X.A.units+1<cLine)(ho:PE X o td)(hi:PE X i ty)(hv:PE X value tv)(hs:swapsWith value (some (.Subscript o i pos')) pos.line X.env=pure false):
  PS X (.Assign [.Subscript o i pos'] value pos) (a08 td ty tv):=by
 intro pins s σ H D I h
 refine wpAny_Assign_Subscript (thn (hv pins s σ H _ I h) λr s1 ⟨v,H1,I1,rv,q1⟩=>thn (ho pins s1 σ H1 _ I1 q1) λu s2 ⟨x,H2,I2,rx,q2⟩=>thn (hi pins s2 σ H2 _ I2 q2) λiv s3 ⟨y,H3,I3,ry,a,H4,ex,g,q3⟩=>?_) hs
 subst ex
 obtain rfl:u=Value.ref a:=rx
 exact at9 hu I3 g ry rv λs4 I4=>⟨σ,H4,I4,q3⟩
end
theorem auf{P:Program}{w:World}{H:Hp}(h:Heap)(hb:sysModules<h.objs.size):gq P w H (h.push {cls:=.type "dict",data:=.dict #[]}) h.objs.size (.dK []) :=
 ⟨Nat.zero_le _,beq_eq_false_iff_ne.mpr (Ne.symm (Nat.ne_of_lt hb)),[],.nil,Heap.DictOf.new h⟩
def a3p:TE:=λ_ H Q=>∀p,H p=none->Q (.ref p) (upd H p (.dK []))
section
variable{X:Cx}{pos:Pos}
theorem azy:PE X (.Dict [] [] pos) a3p:=λpins s σ H Q I h =>
 wpAny_Dict_empty ⟨.ref s.heap.objs.size,_,I.laid (a:=s.heap.objs.size) (o:=.dK []) (t':=s.toks) (λ_ _ q=>Heap.get?_push_of_some _ q) (Nat.le_refl _) (auf s.heap I.big),rfl,h _ (I.hok.fresh (Nat.le_refl _))⟩
end
def yp(kvs more:List (Key×V)):List (Key×V):=more.foldl (λacc kv=>putK acc kv.1 kv.2) kvs
theorem KV.merge:∀{more:List (Key×V)}{rs:List (Key×Value)}{kvs:List (Key×V)}{vs:List (Key×Value)},KV more rs->KV kvs vs->KV (yp kvs more) (merged vs rs):=by
 intro more rs kvs vs r
 unfold KV at r
 induction r generalizing kvs vs with
 | nil=>intro q;exact q
 | @cons p q ps qs h t ih =>
  intro r0
  have e:KV (putK kvs p.1 p.2) (stored vs q.1 q.2):=by
   have:=r0.put p.1 h.2
   rw[<-h.1];exact this
  exact ih e
theorem am4:∀(more kvs:List (Key×V)),(yp kvs more).length<=kvs.length+more.length
 | [],kvs=>by show kvs.length<=kvs.length+0;omega
 | p::r,kvs=>by
  have h1:=am4 r (putK kvs p.1 p.2)
  have h2:=ae0 kvs p.1 p.2
  show(yp (putK kvs p.1 p.2) r).length<=_
  rw[List.length_cons];omega
structure M2(X:Cx)(o:Expr)(m:Str)(apos:Pos)(e f:Expr)(cpos:Pos):Prop where
 base:attributeBase o m X.env (eval o X.env)=eval o X.env
 few:((backTo cpos (starEach [e,f] X.env)).all (λx=>!x.1)&&(backToKw cpos (keywordEach [] X.env)).all (λx=>x.1.isSome)
  && decide (([e,f]:List Expr).length+([]:List Keyword).length+(if ([]:List Keyword).isEmpty then 0 else 1)<30))=true
 line:(apos.endLine==cpos.line)=true
 trees:backTo cpos (starEach [e,f] X.env)=[(false,eval e X.env),(false,eval f X.env)]
def IsD(H:Hp)(a:Addr):Prop:=(∃kvs,Rd H a (.dK kvs))\/∃kvs,Rd H a (.dT kvs)
theorem avl{X:Cx}{pins:List (Addr×Obj)}{σ:St}{H:Hp}{s:Shared}{a:Addr}(I:Inv X pins σ H s)(d:IsD H a):
  s.TypeIs (.ref a) "dict" /\ (∀b,Value.ref a=.ref b->∃ob,s.heap.get? b=some ob/\ob.dict=none)/\(a==sysModules)=false:=by
 rcases d with ⟨kvs,e⟩ | ⟨kvs,e⟩
 ·obtain⟨_,hd,vs,_,dd⟩:=ac7 I.hok e
  refine⟨dd.typeIs,λb q=>?_,hd⟩
  cases q
  obtain⟨ob,_,_,h1,h2,_⟩:=dd
  exact⟨ob,h1,h2.2.1⟩
 ·obtain⟨_,hd,xs,_,dd⟩:=ac9 I.hok e
  refine⟨dd.typeIs,λb q=>?_,hd⟩
  cases q
  obtain⟨ob,_,_,h1,h2,_⟩:=dd
  exact⟨ob,h1,h2.2.1⟩
section
variable{X:Cx}{pins:List (Addr×Obj)}{σ:St}{H:Hp}{s:Shared}{a:Addr}{y d:V}{u r:Value}{o:Option V}{A:Around}{E:Value->Shared->Prop}
theorem at7{Q:Value->Shared->Prop}(hu:A.units+1<cLine)(I:Inv X pins σ H s)(g:z7 H a y o)(ry:RelV y u)(rd:RelV d r)(h:∀w' s',Inv X pins σ H s'->RelV (o.getD d) w'->Q w' s'):
  wpAny (model X.prog X.w) A (call (.builtin "dict.get") [.ref a,u,r]) Q E s:=by
 rcases g with ⟨kvs,k,e,ey,l⟩ | ⟨kvs,k,b,e,ey,eb,l⟩
 ·subst ey
  obtain⟨z,hd,vs,rel,dd⟩:=ac7 I.hok e
  refine call_meetsIn PySem.F.slot_dict_get dd.typeIs PySem.F.entry_dict_get (PySem.F.args_dict_get_3 _ _ _) (meets_dict_get_default (jz X.prog X.w) a (adh ry) hd r) ⟨_,dd.mapOf,h _ _ (I.tok _) ?_⟩
  rw[l]
  exact(rel.val k).getD rd
 ·subst ey
  cases(show u=Value.ref b from ry)
  obtain⟨z,hd,xs,rel,dd⟩:=ac9 I.hok e
  refine call_meetsIn PySem.F.slot_dict_get dd.typeIs PySem.F.entry_dict_get (PySem.F.args_dict_get_3 _ _ _) (meetsH_dict_get_default (tupleKind (jz X.prog X.w)) a b hd r) ⟨tupleKind_room_in1 hu,k,xs,aex I.hok eb,dd,h _ _ (I.tok _) ?_⟩
  rw[l]
  exact(rel.val k).getD rd
end
def a3o(td ty tx:TE):TE:=λσ H Q=>td σ H λx H1=>∃a,x=.ref a/\IsD H1 a/\ty σ H1 λy H2=>tx σ H2 λz H3=>∃o,z7 H3 a y o/\Q (o.getD z) H3
section
variable{X:Cx}{o e f:Expr}{apos cpos:Pos}{td ty tx:TE}
theorem azx(hu:X.A.units+1<cLine)(ho:PE X o td)(he:PE X e ty)(hf:PE X f tx)(m:M2 X o "get" apos e f cpos):PE X (.Call (.Attribute o "get" apos) [e,f] [] cpos) (a3o td ty tx):=by
 intro pins s σ H Q I h
 refine wpAny_Call_method m.base m.few m.line PySem.F.plainAttrs_dict PySem.F.slot_dict_get PySem.F.type_dict_get (thn (ho pins s σ H _ I h) λu s1 ⟨x,H1,I1,rx,a,ex,d,q1⟩=>?_)
 subst ex
 obtain rfl:u=Value.ref a:=rx
 obtain⟨t1,t2,_⟩:=avl I1 d
 refine⟨t1,t2,?_⟩
 rw[m.trees]
 refine Calls.callWith_builtin rfl (Calls.evalArgs_plain (Calls.spliced_cons (thn (he pins s1 σ H1 _ I1 q1) λiv s2 ⟨y,H2,I2,ry,q2⟩ =>
  Calls.spliced_cons (thn (hf pins s2 σ H2 _ I2 q2) λfv s3 ⟨z,H3,I3,rz,ov,g,q3⟩=>Calls.spliced_nil ?_))))
 exact at7 hu I3 g ry rz λw' s4 I4 rw'=>⟨_,H3,I4,rw',q3⟩
end
theorem awn:typeLookup (.type "list") "keys" = pure none:=am_miss_of_fast (by first | decide +kernel | rfl)
theorem ar4:entryFor table "dict.update.loop" = some Builtin.«dict.update.loop»:=entryFor_of_tree (by kernel_rfl)
theorem aed:plainId "dict.update.loop" = true:=by decide +kernel
section
variable{prog:Program}{w:World}{A:Around}{E:Value->Shared->Prop}
theorem awy{s:Shared}{a:Addr}{o:Obj}{xs:Array Value}{k:Nat}{Q:Option Value->Shared->Prop}(hx:s.heap.get? a=some o)(hc:o.cls=.type "list")(hdat:o.data=.seq xs k)(hd:o.dict=none)(hA:A.handled=none)
  (h:∀h' tk,(∀b ob,s.heap.get? b=some ob->h'.get? b=some ob)->Q none {s with heap:=h',toks:=tk}):wpAny (model prog w) A (getAttr? (.ref a) "keys") Q E s:=by
 obtain⟨c,dct,dat,sl⟩:=o
 simp only at hc hdat hd
 subst hc hdat hd
 obtain⟨hp,g,d,tk,os⟩:=s
 have hT:∀tk',(⟨hp,g,d,tk',os⟩:Shared).TypeIs (.ref a) "list" := λ_=>⟨_,hx,rfl⟩
 have hmiss:=awn
 have hname:(["__module__", "__name__", "__qualname__", "__doc__", "__annotations__"]:List Str).contains "keys" = false:=by decide +kernel
 have hsz:("keys" : Str).length+100<=sizeLine:=by first | size_fits | decide +kernel
 have f1:=sub_AttributeError
 have f3:=PySem.F.slot_list_getattribute.lookup
 have f4:=PySem.F.slot_list_getattribute.bind (.ref a)
 have f5:=am_list_getattr_none
 unfold getAttr? getAttrBy? getAttrBy
 repeat (any_goals (first | assumption | exact hT _ | ((with_reducible show wpAny _ _ (call (Value.builtin "list.__getattribute__") _ _) _ _ _);refine call_meets PySem.F.slot_list_getattribute (hT _) am_entry_list_getattribute (PySem.F.args_list_getattribute_2 _ _) (meets_getattribute_miss_list a xs k sl "keys" _ hmiss hname hsz) ⟨hx,hA,λh' tk' e hx'=>?_⟩) | wp_step))
 obtain⟨t',u',he⟩:=hx'.there
 show wpAny _ _ (getattributeRaised _ _ _ _ _ _ _) _ _ _
 unfold getattributeRaised
 repeat (any_goals (first | assumption | wp_step))
 all_goals first | exact h _ _ hx'.keeps | (dsimp only;repeat (any_goals (first | assumption | exact h _ _ hx'.keeps | wp_step)))
theorem ar5{R:Result->Shared->Prop}{S I l:Addr}{items:Array Value}{res:Value}(hh:A.handled=none)(hlI:l≠I)(hSI:S≠I)(hSl:S≠l):
  ∀(rest:List (Key×Value)) (i:Nat) (acc:List (Key×Value)) (ix:Int) (t:Tok) (s:Shared),items.size=i+rest.length->acc.length+rest.length<=sizeLine ->
   (∀(j:Nat) (q:Key×Value),rest[j]? = some q->∃(b:Addr) (u:Value),items[i+j]? = some (.ref b)/\b≠S/\b≠I/\IsTup s.heap b #[u,q.2]/\xq q.1 u=true) ->
   s.heap.IsListIter I l i->s.heap.IsList l items->s.heap.DictOf (jz prog w) S acc ->
   (∀h' tk,h'.DictOf (jz prog w) S (merged acc rest)->(∀b o,b≠S->b≠I->s.heap.get? b=some o->h'.get? b=some o)->R (.ok (.ret res)) {s with heap:=h',toks:=tk}) ->
   codeAny (model prog w) A (.builtin "dict.update.loop" ⟨[.ref S,.ref I,.int ix t,res],[]⟩) R s
 | [],i,acc,ix,t,s,hsz,hln,ht,hit,hl,hm,hR=>by
  refine codeAny_builtin ar4 ?_
  rw[Around.under_plainId aed _]
  show wpAny _ A.in1 (pyNext (.ref I) >>= _) _ _ s
  refine wpAny_bind (wpAny_pyNext_list_end (A:=A.in1) hh hit hl (by first | exact Array.getElem?_eq_none (Nat.le_of_eq hsz) | (simp at hsz;simp;omega)) λh' he=>?_)
  show wpAny _ A.in1 (Builtin.Dict.addKeywords S [] >>= _) _ _ _
  refine wpAny_bind (wpAny_pure (wpAny_pure ?_))
  exact hR h' s.toks (hm.extBut he hSI) λb o _ hb e=>he b o hb e
 | q::rest,i,acc,ix,t,s,hsz,hln,ht,hit,hl,hm,hR=>by
  obtain⟨b,u,hb,hbS,hbI,htup,hk⟩:=ht 0 q rfl
  rw[List.length_cons]at hsz hln
  refine codeAny_builtin ar4 ?_
  rw[Around.under_plainId aed _]
  show wpAny _ A.in1 (pyNext (.ref I) >>= _) _ _ s
  refine wpAny_bind (wpAny_pyNext_list_item (x:=.ref b) hit hl (by simpa using hb) λh1 hit1 hs1=>?_)
  have ht1:IsTup h1 b #[u,q.2]:=htup.extBut hs1.extBut hbI
  have hl1:h1.IsList l items:=hl.extBut hs1.extBut hlI
  have hm1:h1.DictOf (jz prog w) S acc:=hm.extBut hs1.extBut hSI
  obtain⟨o,ho,hc,n,hd⟩:=id ht1
  show wpAny _ A.in1 (holding [Value.ref b] _ >>= _) _ _ _
  refine wpAny_bind (wpAny_holding ?_)
  refine wpAny_bind (wpAny_tryCatch ?_)
  unfold Builtin.Dict.pairItems
  refine wpAny_bind (wpAny_typeOf (T := "tuple") ⟨o,ho,hc⟩ ?_)
  rw[if_pos (by first | decide | rfl | simp)]
  refine wpAny_bind (wpAny_seqItems ho hd (wpAny_pure ?_))
  show wpAny _ A.in1 (holding [u,q.2] (dictSet S u q.2)) _ _ _
  refine wpAny_holding (wpAny_dictSet_pairs (knd:=jz prog w) (k:=q.1) hk hm1 (λh2 hm2 hs2=>?_) (by omega))
  refine wpAny_pure ⟨plainId_quiet aed _,ar5 (items:=items) hh hlI hSI hSl rest (i+1) (stored acc q.1 q.2) (ix+1) 0 _ (show items.size=i+1+rest.length by omega) ?_ (λj q' e=>?_) ?_ ?_ hm2 λh' tk hd' k=>?_⟩
  ·have z:=stored_length_le acc q.1 q.2
   omega
  ·obtain⟨b',u',hb',hbS',hbI',htup',hk'⟩:=ht (j+1) q' (by simpa using e)
   refine⟨b',u',?_,hbS',hbI',(htup'.extBut hs1.extBut hbI').extBut hs2.extBut hbS',hk'⟩
   rw[show i+1+j=i+(j+1) by omega]
   exact hb'
  ·exact hit1.at λo' e=>hs2.extBut I o' (Ne.symm hSI) e
  ·exact hl1.extBut hs2.extBut (Ne.symm hSl)
  ·exact hR h' tk hd' λc oc h3 h4 e=>k c oc h3 h4 (hs2.extBut c oc h3 (hs1.extBut c oc h4 e))
theorem atl{s:Shared}{l:Addr}{ol:Obj}{items:Array Value}{n:Nat}{prs:List (Key×Value)}{Q:Value->Shared->Prop}(hh:A.handled=none)(hl:s.heap.get? l=some ol)(hc:ol.cls=.type "list")(hd:ol.dict=none)
  (hdat:ol.data=.seq items n) (hsz:items.size=prs.length) (hln:prs.length<=sizeLine)
  (ht:∀(j:Nat) (q:Key×Value),prs[j]? = some q->∃(b:Addr) (u:Value),items[j]? = some (.ref b)/\IsTup s.heap b #[u,q.2]/\xq q.1 u=true)
  (h:∀h' tk,h'.DictOf (jz prog w) s.heap.objs.size (merged [] prs)->(∀b o,s.heap.get? b=some o->h'.get? b=some o)->Q (.ref s.heap.objs.size) {s with heap:=h',toks:=tk}) :
  wpAny (model prog w) A (call (.type "dict") [.ref l]) Q E s:=by
 refine callType_codes (Q₁:=λobj s₁=>obj=.ref s.heap.objs.size/\s₁={s with heap:=s.heap.push {cls:=.type "dict",data:=.dict #[]}}) PySem.F.kt_called_dict (PySem.F.kt_typeCall_dict_1 _) PySem.F.entry_dict_init (kt_code_dict_new _ ⟨rfl,rfl⟩) ?_
 rintro obj s₁ ⟨rfl,rfl⟩
 have hnew:(s.heap.push {cls:=.type "dict",data:=.dict #[]}).DictOf (jz prog w) s.heap.objs.size []:=Heap.DictOf.new s.heap
 have k0:∀b o,s.heap.get? b=some o->(s.heap.push {cls:=.type "dict",data:=.dict #[]}).get? b=some o:=λb o e=>Heap.get?_push_of_some _ e
 refine⟨hnew.typeIs,PySem.F.args_dict_init_2 _ _,?_⟩
 unfold Builtin.«dict.__init__»
 refine wpAny_bind ?_
 unfold Builtin.Dict.selfAndRest
 refine wpAny_bind (wpAny_notOrdered_dict hnew.typeIs ?_)
 show wpAny _ _ (pure (s.heap.objs.size,[Value.ref l])) _ _ _
 refine wpAny_pure ?_
 show wpAny _ _ (Builtin.Dict.updateFrom "dict.__init__" s.heap.objs.size (.ref l) [] .none) _ _ _
 unfold Builtin.Dict.updateFrom
 refine wpAny_bind (wpAny_typeOf (T := "list") ⟨ol,k0 _ _ hl,hc⟩ ?_)
 rw[if_pos (by first | decide | rfl | simp)]
 refine wpAny_bind (awy (k0 _ _ hl) hc hdat hd hh λh1 tk1 hk1=>?_)
 rw[if_pos (show(none:Option Value).isNone=true from rfl)]
 refine wpAny_bind (wpAny_rule ?_)
 have hl1:h1.IsList l items:=⟨ol,hk1 _ _ (k0 _ _ hl),hc,n,hdat⟩
 have hS1:s.heap.objs.size<h1.objs.size:=by
  have e:(s.heap.push {cls:=.type "dict",data:=.dict #[]}).get? s.heap.objs.size=some {cls:=.type "dict",data:=.dict #[]}:=Heap.get?_push_size _ rfl
  exact Heap.lt_size (hk1 _ _ e)
 refine wpAny_bind (wpAny_pyIter_list hl1 ?_)
 have k2:∀b o,h1.get? b=some o->(h1.push {cls:=.type "list_iterator",data:=.fields #[.ref l,.int 0 0]}).get? b=some o:=λb o e=>Heap.get?_push_of_some _ e
 have hlt:l<s.heap.objs.size:=Heap.lt_size hl
 have key:=ar5 (prog:=prog) (w:=w) (A:=A.in1) (R:=wants (λr s₂=>r=.none/\Q (.ref s.heap.objs.size) s₂) E) (S:=s.heap.objs.size) (I:=h1.objs.size) (l:=l) (items:=items) (res:=Value.none) hh
  (Nat.ne_of_lt (Nat.lt_trans hlt hS1)) (Nat.ne_of_lt hS1) (Nat.ne_of_gt hlt) prs 0 [] 0 0
  {s with heap:=h1.push {cls:=.type "list_iterator",data:=.fields #[.ref l,.int 0 0]},toks:=tk1} (by rw[hsz,Nat.zero_add]) (by rw[List.length_nil,Nat.zero_add];exact hln)
  (λj q e=>by
   obtain⟨b,u,e1,e2,e3⟩:=ht j q e
   have hb:b<s.heap.objs.size:=e2.lt
   exact⟨b,u,by rw[Nat.zero_add];exact e1,Nat.ne_of_lt hb,Nat.ne_of_lt (Nat.lt_trans hb hS1),e2.keeps λc o z=>k2 _ _ (hk1 _ _ (k0 _ _ z)),e3⟩)
  ⟨_,Heap.get?_push_size _ rfl,rfl,rfl⟩ (hl1.at λo e=>k2 _ _ e) ((hnew.at λo e=>hk1 _ _ e).at λo e=>k2 _ _ e)
  (λh' tk hd' k=>⟨rfl,h h' tk hd' λb o e=>k b o (Nat.ne_of_lt (Heap.lt_size e)) (Nat.ne_of_lt (Nat.lt_trans (Heap.lt_size e) hS1)) (k2 _ _ (hk1 _ _ (k0 _ _ e)))⟩)
 first
  | exact wpAny_pure ⟨plainId_quiet aed _,key⟩
  | exact wpAny_bind (wpAny_pure (wpAny_pure ⟨plainId_quiet aed _,key⟩))
end
section
variable{X:Cx}
theorem an2{pins:List (Addr×Obj)}{σ:St}{H:Hp}{s:Shared}(I:Inv X pins σ H s):∀{ps:List Addr}{kvs:List (Key×V)},Paired (λp kv=>SqT X.K H p [kV kv.1,kv.2]) ps kvs ->
  ∃prs:List (Key×Value),KV kvs prs/\prs.length=ps.length/\∀(j:Nat) (q:Key×Value),prs[j]? = some q->∃(b:Addr) (u:Value),ps[j]? = some b/\IsTup s.heap b #[u,q.2]/\xq q.1 u=true
 | _,_,.nil=>⟨[],.nil,rfl,λj q e=>by simp at e⟩
 | _,_,.cons (a:=p) (b:=kv) h t=>by
  obtain⟨prs,r,hl,hp⟩:=an2 I t
  obtain⟨its,rv,ht,_⟩:=I.tuple h
  obtain⟨u,y,ei,ru,ry⟩:=vals2 rv
  subst ei
  refine⟨(kv.1,y)::prs,.cons ⟨rfl,ry⟩ r,by rw[List.length_cons,List.length_cons,hl],λj q e=>?_⟩
  cases j with
  | zero =>
   have e':(kv.1,y)=q:=Option.some.inj e
   subst e'
   exact⟨p,u,rfl,ht,adh (P:=X.prog) (w:=X.w) ru⟩
  | succ j =>
   obtain⟨b,u',e1,e2,e3⟩:=hp j q (by simpa using e)
   exact⟨b,u',by simpa using e1,e2,e3⟩
theorem aop:∀{ps:List Addr}{us:List Value},Vals (ps.map V.ref) us->us=ps.map Value.ref
 | [],us,r=>by
  rw[List.map_nil]at r
  cases r
  rfl
 | p::ps,us,r=>by
  rw[List.map_cons]at r
  cases r with
  | cons h t =>
   cases h
   rw[List.map_cons,<-aop t]
theorem atk(hcalm:X.calm=true):vh X (.type "dict") (λxs H Q=>∃(a:Addr) (ps:List Addr) (kvs:List (Key×V)),xs=[.ref a]/\SqL X.K H a (ps.map V.ref)/\Paired (λp kv=>SqT X.K H p [kV kv.1,kv.2]) ps kvs /\
  ∀p,H p=none->Q (.ref p) (upd H p (.dK (yp [] kvs)))):=by
 intro pins s σ H xs us Q I r q
 obtain⟨a,ps,kvs,ex,hq,hp,q⟩:=q
 subst ex
 obtain⟨u,eu,rx⟩:=vals1 r
 subst eu
 cases rx
 obtain⟨its,rv,pl,hz⟩:=I.list hq
 have ei:=aop rv
 subst ei
 rw[List.length_map]at hz
 obtain⟨prs,rel,hl,hpr⟩:=an2 I hp
 obtain⟨o,n,ho,hc,hd,hdat⟩:=pl
 refine atl (prs:=prs) (I.ok.hd hcalm) ho hc hd hdat (by simp[hl]) (by rw[hl];exact hz) (λj q' e=>?_) λh' tk hd' k=>?_
 ·obtain⟨b,u,e1,e2,e3⟩:=hpr j q' e
  exact⟨b,u,by simp[e1],e2,e3⟩
 ·have hm:(s.heap.objs.size==sysModules)=false:=beq_eq_false_iff_ne.mpr (Nat.ne_of_gt I.big)
  have hlen:(yp [] kvs).length<=sizeLine:=by
   refine Nat.le_trans (am4 kvs []) ?_
   rw[List.length_nil,Nat.zero_add,rel.length,hl]
   exact hz
  exact⟨.ref s.heap.objs.size,upd H s.heap.objs.size (.dK (yp [] kvs)),I.laid (t':=tk) k (Nat.le_refl _) (show gq X.prog X.w _ _ _ (.dK (yp [] kvs)) from⟨hlen,hm,merged [] prs,KV.merge rel .nil,hd'⟩),rfl,q _ (I.hok.fresh (Nat.le_refl _))⟩
end
theorem ati:bootBuiltins "reversed" = some (.type "reversed"):=by decide +kernel
section
variable{X:Cx}{pins:List (Addr×Obj)}{σ:St}{H:Hp}{s:Shared}{h':Heap}
theorem Inv.arx{t':Nat}{ch:List Addr}(I:Inv X pins σ H s)(k:∀b o,b∉ch->s.heap.get? b=some o->h'.get? b=some o)(hf:∀b∈ch,vo X pins H b):Inv X pins σ H {s with heap:=h',toks:=t'}:=by
 have nit:∀b u,H b=some u->b∉ch:=λb u e z=>by
  have q:=(hf b z).1
  rw[q]at e;cases e
 refine I.step (g':=s.gens) (d':=s.drawn) (ch:=ch) (λb hb=>⟨(hf b hb).2.2.2.1,(hf b hb).2.1,(hf b hb).2.2.2.2.1,(hf b hb).2.2.2.2.2⟩) (λb o _ _ hc e _=>k b o hc e) (λb o _ _ hc e _=>⟨o.slots,k b o hc e⟩)
  (λ_ _ _ _ n=>n) (λb o hc e=>⟨o,k b o hc e⟩) (λ_ _ e=>e) (λ_ _ _ e=>e) (λb ps e=>⟨#[],by rw[e];simp⟩) (λm hm=>?_) (λb u e=>?_) I.bare
 ·obtain⟨o,es,ep,ho,r⟩:=hm
  exact⟨o,es,ep,k _ o (λz=>(hf _ z).2.1 rfl) ho,r⟩
 ·refine(I.hok b u e).stay (λc v hc q=>k c v ?_ q) (λ_ q=>q) λ_ _ q=>q
  rcases hc with z | z
  ·rw[z];exact nit b u e
  ·exact nit c _ z
theorem Inv.arz{t':Nat}{ch:List Addr}{T:Addr}{ob:HO}(I:Inv X pins σ H s)(k:∀b o,b∉ch->s.heap.get? b=some o->h'.get? b=some o)(hf:∀b∈ch,vo X pins H b)(hT:s.heap.objs.size<=T)
  (new:gq X.prog X.w (upd H T ob) h' T ob):Inv X pins σ (upd H T ob) {s with heap:=h',toks:=t'}:=by
 have hn:H T=none:=I.hok.fresh hT
 have nit:∀b u,H b=some u->b∉ch:=λb u e z=>by
  have q:=(hf b z).1
  rw[q]at e;cases e
 refine I.step (g':=s.gens) (d':=s.drawn) (ch:=ch) (λb hb=>⟨(hf b hb).2.2.2.1,(hf b hb).2.1,(hf b hb).2.2.2.2.1,(hf b hb).2.2.2.2.2⟩) (λb o _ _ hc e _=>k b o hc e) (λb o _ _ hc e _=>⟨o.slots,k b o hc e⟩)
  (λb o _ e n=>?_) (λb o hc e=>⟨o,k b o hc e⟩) (λb xs e=>?_) (λb o u e=>?_) (λb ps e=>⟨#[],?_⟩) (λm hm=>?_) (λb u e=>?_) I.bare
 ·rw[ao (Nat.ne_of_lt (Nat.lt_of_lt_of_le (Heap.lt_size e) hT))];exact n
 ·rw[ao (bx e hn)];exact e
 ·rw[ao (bx e hn)];exact e
 ·rw[ao (bx e hn),e];simp
 ·obtain⟨o,es,ep,ho,r⟩:=hm
  exact⟨o,es,ep,k _ o (λz=>(hf _ z).2.1 rfl) ho,r⟩
 ·by_cases hb:b=T
  ·subst hb
   rw[ak]at e
   cases e
   exact new
  ·rw[ao hb]at e
   refine(I.hok b u e).stay (λc v hc q=>k c v ?_ q) (λc q=>by rw[ao (bx q hn)];exact q) λc xs q=>by rw[ao (bx q hn)];exact q
   rcases hc with z | z
   ·rw[z];exact nit b u e
   ·exact nit c _ z
theorem Inv.lock{d:Addr}{u:HO}(I:Inv X pins σ H s)(h:H d=some u)(mu:Mut (some u)):∃od,Inv X pins σ (upd H d (.frz od u)) s:=by
 have x:=I.hok d u h
 have ex:∃od,s.heap.get? d=some od:=by
  cases u with
  | lst xs=>obtain⟨_,_,_,_,e⟩:=x;exact⟨_,e⟩
  | dK kvs=>obtain⟨_,_,_,_,o,_,_,e,_⟩:=x;exact⟨o,e⟩
  | dT kvs=>obtain⟨_,_,_,_,o,_,_,e,_⟩:=x;exact⟨o,e⟩
  | set S n=>obtain⟨o,_,_,_,e,_⟩:=x;exact⟨o,e⟩
  | ins C dx fs=>obtain⟨_,_,_,e,_⟩:=x;exact⟨_,e⟩
  | ext φ=>obtain⟨_,⟨_,e⟩,_⟩:=x;exact⟨_,e⟩
  | _=>exact False.elim mu
 obtain⟨od,e⟩:=ex
 have new:gq X.prog X.w (upd H d (.frz od u)) s.heap d (.frz od u):=by
  refine⟨e,x.stay (λb v _ q=>q) (λb q=>?_) λb xs q=>?_⟩
  ·rw[ao (λz=>by rw[z,h]at q;cases q;exact mu)];exact q
  ·rw[ao (λz=>by rw[z,h]at q;cases q;exact mu)];exact q
 exact⟨od,I.write (x:=d) (e:=d) (t':=s.toks) (h':=s.heap) (by rw[h];exact mu) (.inl rfl) (λb v _ q=>q) ⟨od,e⟩ new⟩
theorem Inv.adl{d:Addr}{u:HO}(I:Inv X pins σ H s)(h:H d=some u)(mu:Mut (some u)):∀o' u',X.H_0 d≠some (.frz o' u'):=λo' u' e=>by
 have q:=I.base.frzs d o' u' e
 rw[h]at q
 cases q
 exact mu
theorem Inv.unlock{d:Addr}{od:Obj}{u:HO}(I:Inv X pins σ H s)(h:H d=some (.frz od u))(hn:∀o' u',X.H_0 d≠some (.frz o' u')):Inv X pins σ (upd H d u) s:=by
 have neH:∀b o,H b=some o->(∀o' u',o≠.frz o' u')->b≠d:=λb o e hne z=>by
  rw[z,h]at e
  cases e
  exact hne _ _ rfl
 have neN:∀b,H b=none->b≠d:=λb e z=>by rw[z,h]at e;cases e
 refine⟨I.ok,I.os,I.bare,⟨I.base.keep,I.base.slot,λb o e n hx=>?_,I.base.there,λb xs e=>?_,λb o x e=>?_,λb ps e=>?_⟩,I.loc,I.cell,?_,λx c e=>?_,λp hp=>?_,λb o e=>?_,I.len⟩
 ·rw[ao (neN b (I.base.free b o e n hx))];exact I.base.free b o e n hx
 ·have q:=I.base.tups b xs e
  rw[ao (neH b _ q (λ_ _ z=>nomatch z))];exact q
 ·have q:=I.base.frzs b o x e
  rw[ao (λz=>by rw[z]at e;exact hn _ _ e)];exact q
 ·obtain⟨m,q⟩:=I.base.tbls b ps e
  exact⟨m,by rw[ao (neH b _ q (λ_ _ z=>nomatch z))];exact q⟩
 ·rw[ao (neN _ I.free)];exact I.free
 ·rw[ao (neN c (I.freeC x c e))];exact I.freeC x c e
 ·obtain⟨e,n,r⟩:=I.pin p hp
  exact⟨e,by rw[ao (neN _ n)];exact n,r⟩
 ·by_cases hb:b=d
  ·rw[hb,ak]at e
   cases e
   rw[hb]
   obtain⟨_,x⟩:=I.hok d _ h
   exact x.stay (λc v _ q=>q) (λc q=>by rw[ao (neH c _ q (λ_ _ z=>nomatch z))];exact q) λc xs q=>by rw[ao (neH c _ q (λ_ _ z=>nomatch z))];exact q
  ·rw[ao hb]at e
   exact(I.hok b o e).stay (λc v _ q=>q) (λc q=>by rw[ao (neH c _ q (λ_ _ z=>nomatch z))];exact q) λc xs q=>by rw[ao (neH c _ q (λ_ _ z=>nomatch z))];exact q
end
def arl(t:TS):TS:=λD σ H=>∃d u,H d=some u/\Mut (some u)/\∀od,t ⟨λσ' H'=>H' d=some (.frz od u)/\D.nx σ' (upd H' d u),λv H'=>H' d=some (.frz od u)/\D.rt v (upd H' d u),λσ' H'=>H' d=some (.frz od u)/\D.bk σ' (upd H' d u),λσ' H'=>H' d=some (.frz od u)/\D.ct σ' (upd H' d u)⟩ σ (upd H d (.frz od u))
def a3r(t:TE):TE:=λσ H Q=>∃d u,H d=some u/\Mut (some u)/\∀od,t σ (upd H d (.frz od u)) λv H'=>H' d=some (.frz od u)/\Q v (upd H' d u)
section
variable{X:Cx}
theorem a0k{st:Stmt}{t:TS}(h:PS X st t):PS X st (arl t):=by
 intro pins s σ H D I hw
 obtain⟨d,u,hd,mu,hw⟩:=hw
 obtain⟨od,I1⟩:=I.lock hd mu
 refine thn (h pins s σ _ _ I1 (hw od)) λf s1 q=>?_
 cases f with
 | next=>obtain⟨σ',H',I2,e,q⟩:=q;exact⟨σ',_,I2.unlock e (I.adl hd mu),q⟩
 | brk=>obtain⟨σ',H',I2,e,q⟩:=q;exact⟨σ',_,I2.unlock e (I.adl hd mu),q⟩
 | cont=>obtain⟨σ',H',I2,e,q⟩:=q;exact⟨σ',_,I2.unlock e (I.adl hd mu),q⟩
 | ret v=>obtain⟨x,σ',H',I2,r,e,q⟩:=q;exact⟨x,σ',_,I2.unlock e (I.adl hd mu),r,q⟩
theorem azz{e:Expr}{t:TE}(h:PE X e t):PE X e (a3r t):=by
 intro pins s σ H Q I hw
 obtain⟨d,u,hd,mu,hw⟩:=hw
 obtain⟨od,I1⟩:=I.lock hd mu
 refine thn (h pins s σ _ _ I1 (hw od)) λv s1 ⟨x,H1,I2,r,e2,q⟩=>?_
 exact⟨x,_,I2.unlock e2 (I.adl hd mu),r,q⟩
theorem adw{tg:Expr}{pins:List (Addr×Obj)}{σ:St}{H:Hp}{s:Shared}{R:It->Hp->Prop}{J:It}{tn:Nat->Heap->Prop}{tk:Nat}(I:Inv X pins σ H s)(o:Obj)
  (T:Turn X.prog X.w X.K tg J [s.heap.objs.size] s.heap.objs.size tn) (st:tn 0 (s.heap.push o)) (q:R J H):PIE X pins σ tg R (.ref s.heap.objs.size) {s with heap:=s.heap.push o,toks:=tk}:=by
 refine⟨s.heap.objs.size,[s.heap.objs.size],tn,J,H,rfl,I.kept λb ob e=>Heap.get?_push_of_some _ e,T,st,λb hb=>?_,q⟩
 have e:b=s.heap.objs.size:=by simpa using hb
 subst e
 exact I.abb (Nat.le_refl _) (I.hok.fresh (Nat.le_refl _))
end
def Itc(lo c:Int)(n:Nat):It:=⟨λi _=>i<n,λi H x H'=>H'=H/\x=.int (lo+(i:Nat)*c),λi _=>n<=i⟩
theorem a4k{P:Program}{w:World}{K:PySem.W.Frag}{tg:Expr}(it:Addr)(lo c:Int)(n:Nat):Turn P w K tg (Itc lo c n) [it] it (λi h=>IsRangeIter h it (lo+(i:Nat)*c) ((n:Int)-(i:Nat)) c) where
 mem:=by simp
 obj:=λi h st b hb=>by
  have e:b=it:=by simpa using hb
  subst e
  exact⟨_,st,λv z=>nomatch z⟩
 keep:=λi h h' st k=>k it (by simp) _ st
 item:=by
  intro X hP hw hK hc i pins s σ H E I hf st hg
  subst hP hw hK
  obtain⟨f0,f1,f2,f3,f4,f5⟩:=hf it (by simp)
  have W:=Walks.range (prog:=X.prog) (w:=X.w) (I.ok.hd hc) it lo c n
  refine W.item i s _ _ hg st λv h' tk hv st' kk=>?_
  obtain⟨t,rfl⟩:=hv
  have I1:Inv X pins σ H {s with heap:=h',toks:=tk}:=I.turned (λb o hb e=>kk b o (by simpa using hb) e) f0 f1 f3 f4 f5
  exact⟨_,rfl,abd (s:={s with heap:=h',toks:=tk}) (n := "range_iterator") st' rfl rfl (by decide) ⟨.int (lo+(i:Nat)*c),H,I1,⟨t,rfl⟩,⟨rfl,rfl⟩,st',λb hb=>(hf b hb).1⟩⟩
 done:=by
  intro X hP hw hK hc i pins s σ H E I hf st hg
  subst hP hw hK
  obtain⟨f0,f1,f2,f3,f4,f5⟩:=hf it (by simp)
  exact wpAny_pyNext_range_end (I.ok.hd hc) st (by have:n<=i:=hg;omega) λh' eb=>⟨rfl,I.turned (t':=s.toks) (λb o hb e=>eb b o hb e) f0 f1 f3 f4 f5⟩
 self:=λA i s Q E st h=>wpAny_pyIter_rangeiter st h
theorem amf{lo c:Int}{n:Nat}{g:TG}{tb:TS}{D:Ends}{σ:St}{H:Hp}(Pv:Nat->St->Hp->Prop)(h0:Pv 0 σ H)
  (hs:∀i σ H,i<n->Pv i σ H->g (.int (lo+(i:Nat)*c)) σ H λσ2 H2=>tb {D with nx:=Pv (i+1),ct:=Pv (i+1),bk:=D.nx} σ2 H2) (hd:∀σ H,Pv n σ H->D.nx σ H) :
  ∃W:Nat->Nat->St->Hp->Prop,(∃m,W 0 m σ H)/\∀i m σ H,W i m σ H ->
   ((Itc lo c n).stop i H/\D.nx σ H)\/((Itc lo c n).go i H/\∃N:St->Hp->Prop,(∀σ' H',N σ' H'->∃m',m'<m/\W (i+1) m' σ' H')/\∀x H',(Itc lo c n).yld i H x H'->g x σ H' λσ2 H2=>tb {D with nx:=N,ct:=N,bk:=D.nx} σ2 H2):=by
 refine⟨λi m σ H=>m=n-i/\i<=n/\Pv i σ H,⟨n,by simp,Nat.zero_le _,h0⟩,?_⟩
 rintro i m σ H ⟨rfl,hi,p⟩
 by_cases hlt:i<n
 ·refine .inr ⟨hlt,Pv (i+1),λσ' H' p'=>⟨n-(i+1),by omega,rfl,hlt,p'⟩,λx H' y=>?_⟩
  obtain⟨e,y⟩:=y
  subst e y
  exact hs i σ _ hlt p
 ·have e:i=n:=by omega
  subst e
  exact .inl ⟨Nat.le_refl _,hd σ H p⟩
def Its(x:Str):It:=⟨λi _=>i<x.cps.size,λi H v H'=>H'=H/\∃c,x.cps[i]? = some c/\v=.str ⟨#[c]⟩,λi _=>x.cps.size<=i⟩
theorem arw{P:Program}{w:World}{K:PySem.W.Frag}{tg:Expr}(it:Addr)(x:Str)(t:Tok)(ty:String)(hty:ty = "str_ascii_iterator" \/ ty = "str_iterator"):
  Turn P w K tg (Its x) [it] it (λi h=>h.IsStrIter it ty x t i) where
 mem:=by simp
 obj:=λi h st b hb=>by
  have e:b=it:=by simpa using hb
  subst e
  obtain⟨o,e,c,d⟩:=st
  exact⟨o,e,λv z=>by rw[d]at z;cases z⟩
 keep:=λi h h' st k=>let ⟨o,ho,r⟩:=st;⟨o,k it (by simp) o ho,r⟩
 item:=by
  intro X hP hw hK hc i pins s σ H E I hf st hg
  subst hP hw hK
  obtain⟨f0,f1,f2,f3,f4,f5⟩:=hf it (by simp)
  have W:Walks X.prog X.w X.A it [it] [it] x.cps.size (SignAt x) (λi h=>h.IsStrIter it ty x t i):=by
   rcases hty with e | e
   ·rw[e];exact Walks.strAscii (I.ok.hd hc) it x t
   ·rw[e];exact Walks.strWide (I.ok.hd hc) it x t
  have hno:["enumerate", "zip", "dict_itemiterator", "dict_reverseitemiterator", "odict_iterator", "itertools.zip_longest", "itertools.pairwise"].contains ty=false:=by
   rcases hty with e | e
   ·rw[e];decide
   ·rw[e];decide
  refine W.item i s _ _ hg st λv h' tk hv st' kk=>?_
  obtain⟨c,u,hcx,rfl⟩:=hv
  have I1:Inv X pins σ H {s with heap:=h',toks:=tk}:=I.turned (λb o hb e=>kk b o (by simpa using hb) e) f0 f1 f3 f4 f5
  obtain⟨oi,e,cc,dd⟩:=id st'
  exact⟨_,rfl,abd (s:={s with heap:=h',toks:=tk}) e cc dd hno ⟨.str ⟨#[c]⟩,H,I1,⟨u,rfl⟩,⟨rfl,c,hcx,rfl⟩,st',λb hb=>(hf b hb).1⟩⟩
 done:=by
  intro X hP hw hK hc i pins s σ H E I hf st hg
  subst hP hw hK
  obtain⟨f0,f1,f2,f3,f4,f5⟩:=hf it (by simp)
  have hx:x.cps[i]? = none:=Array.getElem?_eq_none hg
  rcases hty with e | e
  ·rw[e]at st
   exact wpAny_pyNext_ascii_end (I.ok.hd hc) st hx λh' eb=>⟨rfl,I.turned (t':=s.toks) (λb o hb e=>eb b o hb e) f0 f1 f3 f4 f5⟩
  ·rw[e]at st
   exact wpAny_pyNext_wide_end (I.ok.hd hc) st hx λh' eb=>⟨rfl,I.turned (t':=s.toks) (λb o hb e=>eb b o hb e) f0 f1 f3 f4 f5⟩
 self:=λA i s Q E st h=>by
  rcases hty with e | e
  ·rw[e]at st;exact wpAny_pyIter_striter_ascii st h
  ·rw[e]at st;exact wpAny_pyIter_striter_wide st h
def avc(te:TE):TI:=λσ H R=>te σ H λv H1=>∃x,v=.str x/\R (Its x) H1
theorem afg{X:Cx}{tg e:Expr}{te:TE}(he:PE X e te):PI X tg e (avc te):=by
 intro pins s σ H R I h
 refine thn (he pins s σ H _ I h) λv s1 ⟨y,H1,I1,r1,x,ex,q⟩=>?_
 subst ex
 obtain⟨t,rfl⟩:=r1
 cases ha:x.cps.all (·< 128)
 ·exact wpAny_pyIter_wide ha (adw (tk:=s1.toks) I1 _ (arw _ x t "str_iterator" (.inr rfl)) ⟨_,Heap.get?_push_size _ rfl,rfl,rfl⟩ q)
 ·exact wpAny_pyIter_ascii ha (adw (tk:=s1.toks) I1 _ (arw _ x t "str_ascii_iterator" (.inl rfl)) ⟨_,Heap.get?_push_size _ rfl,rfl,rfl⟩ q)
section
variable{prog:Program}{w:World}{A:Around}{E:Value->Shared->Prop}{s:Shared}
theorem amz{d:Addr}{o:Obj}{es:Array DictEntry}{ep:Nat}{Q:Value->Shared->Prop}(hd:(d==sysModules)=false)(ho:s.heap.get? d=some o)(hc:o.ExactDict)(hdat:o.data=.dict es ep)
  (hQ:Q (.ref s.heap.objs.size) {s with heap:=s.heap.push {cls:=.type "dict_keyiterator",data:=.fields #[.ref d,.int 0 0,.int es.size 0,.int ep 0]}}) :
  wpAny (model prog w) A (pyIter (.ref d)) Q E s:=by
 have hT:s.TypeIs (.ref d) "dict" := ⟨o,ho,hc.1⟩
 refine wpAny_pyIter_slot hT F.slot_dict_iter (wpAny_call_entry F.slot_dict_iter hT F.entry_dict_iter ?_ (F.args_dict_iter_1 _))
 unfold Builtin.«dict.__iter__»
 refine wpAny_bind ?_
 unfold Builtin.Dict.dictSlotNone
 refine wpAny_bind (wpAny_notOrdered_dict hT ?_)
 show wpAny _ _ (pure (Value.ref d)) _ _ s
 refine wpAny_pure ?_
 show wpAny _ _ (Builtin.Dict.showsAll d >>= _) _ _ s
 unfold Builtin.Dict.showsAll
 rw[if_neg (by rw[hd];exact Bool.false_ne_true)]
 refine wpAny_bind (wpAny_pure ?_)
 refine wpAny_bind (wpAny_dictEntries ho hdat ?_)
 refine wpAny_bind (wpAny_dictEpoch ho hdat ?_)
 refine wpAny_bind (wpAny_newObj_type (wpAny_pure ⟨_,rfl, "dict_keyiterator",_,⟨_,Heap.get?_push_size _ rfl,rfl⟩,F.slot_dict_keyiterator_next.lookup,?_⟩))
 simpa[rawInt]using hQ
theorem aw6{it d:Addr}{i n ep:Nat}{od:Obj}{es:Array DictEntry}{en:DictEntry}{Q:Option Value->Shared->Prop}(hit:s.heap.IsKeyIter it d i n ep)(hod:s.heap.get? d=some od)(hdd:od.data=.dict es ep)
  (hsz:es.size=n) (hx:es[i]? = some en) (hQ:∀h',h'.IsKeyIter it d (i+1) n ep->Heap.SameBut it s.heap h'->Q (some en.key) {s with heap:=h'}):wpAny (model prog w) A (pyNext (.ref it)) Q E s:=by
 obtain⟨o,ho,hc,hd⟩:=id hit
 unfold pyNext
 refine wpAny_bind (wpAny_attempt (wpAny_callSpecial?_slot (name:=Str.ofString "__next__") hit.typeIs F.slot_dict_keyiterator_next
  (wpAny_call_entry F.slot_dict_keyiterator_next hit.typeIs F.entry_dict_keyiterator_next ?_ (F.args_dict_keyiterator_next_1 _))))
 refine wpAny_bind (wpAny_pure ?_)
 refine wpAny_bind ?_
 refine wpAny_bind ?_
 first | refine wpAny_bind (wpAny_typeNameOfWhole_keyiter hit.typeIs (wpAny_pure ?_)) | refine wpAny_bind (wpAny_typeNameOf_keyiter hit.typeIs (wpAny_pure ?_))
 refine wpAny_bind (wpAny_fieldsOf ho hd ?_)
 have hown:Builtin.Dict_items.ownsTuple "dict_keyiterator" = false:=by decide
 simp only[hown,Bool.false_eq_true,if_false]
 show wpAny _ _ (if (Value.ref d==Value.none)=true then _ else _) _ _ s
 rw[if_neg (show ¬((Value.ref d==Value.none)=true) from Bool.false_ne_true)]
 refine wpAny_bind (wpAny_pure ?_)
 refine wpAny_bind (wpAny_dictEntries hod hdd ?_)
 rw[if_neg (by rw[hsz];simp)]
 refine wpAny_bind (wpAny_pure ?_)
 refine wpAny_bind (wpAny_dictEpoch hod hdd ?_)
 rw[if_neg (by simp)]
 refine wpAny_pure ?_
 obtain⟨hlt',hen⟩:=Array.getElem?_eq_some_iff.mp hx
 simp only[show ¬((i:Int)<0) from by omega,if_false,Int.toNat_natCast,Array.getElem?_eq_getElem hlt']
 refine wpAny_bind ?_
 first | refine wpAny_bind (wpAny_typeNameOfWhole_keyiter hit.typeIs (wpAny_pure ?_)) | refine wpAny_bind (wpAny_typeNameOf_keyiter hit.typeIs (wpAny_pure ?_))
 refine wpAny_bind (wpAny_isOneOf_keyiter hit.typeIs ?_)
 show wpAny _ _ (setField (.ref it) 1 (rawInt ((i:Int)+1)) >>= _) _ _ s
 refine wpAny_bind (wpAny_setField ho hd (by simp) ?_)
 have hit':(s.heap.update it (Obj.mapFields (·.setIfInBounds 1 (rawInt ((i:Int)+1))))).IsKeyIter it d (i+1) n ep :=
  ⟨_,Heap.get?_update_self _ ho (Obj.isFreed_of_fields (Obj.data_mapFields hd _)),(Obj.cls_mapFields ..).trans hc,by rw[Obj.data_mapFields hd];simp[rawInt]⟩
 refine wpAny_bind (wpAny_holding ?_)
 refine wpAny_bind (wpAny_isOneOf_keyiter (s:={s with heap:=s.heap.update it (Obj.mapFields (·.setIfInBounds 1 (rawInt ((i:Int)+1))))}) hit'.typeIs ?_)
 show wpAny _ _ (pure es[i].key) _ _ _
 rw[hen]
 exact wpAny_pure (wpAny_pure ⟨_,rfl,wpAny_pure (hQ _ hit' (Heap.SameBut.update ..))⟩)
theorem anl{it d:Addr}{i n ep:Nat}{od:Obj}{es:Array DictEntry}{Q:Option Value->Shared->Prop}(hh:A.handled=none)(hit:s.heap.IsKeyIter it d i n ep)(hod:s.heap.get? d=some od)(hdd:od.data=.dict es ep)
  (hsz:es.size=n) (hge:n<=i) (hQ:∀h',Heap.ExtBut it s.heap h'->Q none {s with heap:=h'}):wpAny (model prog w) A (pyNext (.ref it)) Q E s:=by
 obtain⟨o,ho,hc,hd⟩:=id hit
 unfold pyNext
 refine wpAny_bind (wpAny_attempt (wpAny_callSpecial?_slot (name:=Str.ofString "__next__") hit.typeIs F.slot_dict_keyiterator_next
  (wpAny_call_entry F.slot_dict_keyiterator_next hit.typeIs F.entry_dict_keyiterator_next ?_ (F.args_dict_keyiterator_next_1 _))))
 refine wpAny_bind (wpAny_pure ?_)
 refine wpAny_bind ?_
 refine wpAny_bind ?_
 first | refine wpAny_bind (wpAny_typeNameOfWhole_keyiter hit.typeIs (wpAny_pure ?_)) | refine wpAny_bind (wpAny_typeNameOf_keyiter hit.typeIs (wpAny_pure ?_))
 refine wpAny_bind (wpAny_fieldsOf ho hd ?_)
 have hown:Builtin.Dict_items.ownsTuple "dict_keyiterator" = false:=by decide
 simp only[hown,Bool.false_eq_true,if_false]
 show wpAny _ _ (if (Value.ref d==Value.none)=true then _ else _) _ _ s
 rw[if_neg (show ¬((Value.ref d==Value.none)=true) from Bool.false_ne_true)]
 refine wpAny_bind (wpAny_pure ?_)
 refine wpAny_bind (wpAny_dictEntries hod hdd ?_)
 rw[if_neg (by rw[hsz];simp)]
 refine wpAny_bind (wpAny_pure ?_)
 refine wpAny_bind (wpAny_dictEpoch hod hdd ?_)
 rw[if_neg (by simp)]
 refine wpAny_pure ?_
 have hge':es.size<=i:=by rw[hsz];exact hge
 simp only[show ¬((i:Int)<0) from by omega,if_false,Int.toNat_natCast,Array.getElem?_eq_none hge']
 refine wpAny_bind ?_
 first | refine wpAny_bind (wpAny_typeNameOfWhole_keyiter hit.typeIs (wpAny_pure ?_)) | refine wpAny_bind (wpAny_typeNameOf_keyiter hit.typeIs (wpAny_pure ?_))
 show wpAny _ _ (setField (.ref it) 0 .none >>= _) _ _ s
 refine wpAny_bind (wpAny_setField ho hd (by simp) ?_)
 show wpAny _ _ (newExc (.type "StopIteration") [] >>= _) _ _ _
 refine wpAny_bind ?_
 simp only[newExc,newTuple]
 refine wpAny_bind (wpAny_newObj_type ?_ (by size_fits))
 refine wpAny_bind (m:=firstArgMember _ _) (wpAny_of_eq (a:=Value.none) (by first | rfl | (simp only[firstArgMember];rfl)) ?_)
 refine wpAny_newObj_type ?_ (by size_fits)
 simp only[raiseNew]
 refine wpAny_bind (wpAny_handled ?_)
 rw[show A.in1.handled=none from hh]
 refine wpAny_bind (wpAny_pure (wpAny_throw ?_))
 refine wpAny_bind (wpAny_isInstance (T := "StopIteration") (b:=true) ⟨_,Heap.get?_push_size _ rfl,rfl⟩ isSubtype_stop ?_)
 exact wpAny_pure (hQ _ (((Heap.SameBut.update ..).extBut.push _).push _))
end
theorem av6{κ:Type}{kvs:List (κ×V)}{vs:List (κ×Value)}(h:KV kvs vs):∀{i:Nat}{k:κ}{v:V},kvs[i]? = some (k,v)->∃u,vs[i]? = some (k,u)/\RelV v u:=by
 unfold KV at h
 induction h with
 | nil=>intro i k v e;simp at e
 | @cons a b l₁ l₂ r t ih =>
  intro i k v e
  cases i with
  | zero =>
   simp only[List.getElem?_cons_zero,Option.some.injEq]at e
   subst e
   refine⟨b.2,?_,r.2⟩
   simp only[List.getElem?_cons_zero]
   exact congrArg some (Prod.ext r.1.symm rfl)
  | succ j =>
   simp only[List.getElem?_cons_succ]at e ⊢
   exact ih e
theorem ph{α β:Type}{G:α->β->Prop}{l₁:List α}{l₂:List β}(h:Paired G l₁ l₂):∀{i:Nat}{a:α},l₁[i]? = some a->∃b,l₂[i]? = some b/\G a b:=by
 induction h with
 | nil=>intro i a e;simp at e
 | @cons a b l₁ l₂ r t ih =>
  intro i a' e
  cases i with
  | zero =>
   simp only[List.getElem?_cons_zero,Option.some.injEq]at e
   subst e
   exact⟨b,rfl,r⟩
  | succ j =>
   simp only[List.getElem?_cons_succ]at e ⊢
   exact ih e
theorem a04{k:Key}{u:Value}(h:xq k u=true):RelV (kV k) u:=by
 rcases yl h with ⟨i,t,rfl,rfl⟩ | ⟨x,t,rfl,rfl⟩
 ·exact⟨t,rfl⟩
 ·exact⟨t,rfl⟩
section
variable{X:Cx}{pins:List (Addr×Obj)}{σ:St}{H:Hp}{s:Shared}{d:Addr}{o:Obj}
theorem Inv.ag7{kvs:List (Key×V)}(I:Inv X pins σ H s)(h:H d=some (.frz o (.dK kvs))):
  (d==sysModules)=false/\s.heap.get? d=some o/\o.ExactDict/\∃(es:Array DictEntry) (ep:Nat) (vs:List (Key×Value)),o.data=.dict es ep/\es.size=kvs.length/\KV kvs vs/\s.heap.DictAt (jz X.prog X.w) d vs ep:=by
 obtain⟨hd,z,hs,vs,kv,o',es,ep,ho,hx,hdt,r⟩:=I.hok d _ h
 rw[hd]at ho
 cases ho
 refine⟨hs,hd,hx,es,ep,vs,hdt,?_,kv,o,es,hd,hx,hdt,r⟩
 have l1:=r.2.1.length
 have l2:kvs.length=vs.length:=Paired.length kv
 rw[Array.length_toList]at l1
 omega
theorem Inv.ag8{kvs:List (List Key×V)}(I:Inv X pins σ H s)(h:H d=some (.frz o (.dT kvs))):
  (d==sysModules)=false/\s.heap.get? d=some o/\o.ExactDict/\∃(es:Array DictEntry) (ep:Nat),o.data=.dict es ep/\es.size=kvs.length /\
   ∀(i:Nat) (k:List Key) (v:V),kvs[i]? = some (k,v)->∃(en:DictEntry) (q:Addr),es[i]? = some en/\en.key=.ref q/\H q=some (.tup (k.map kV)):=by
 obtain⟨hd,z,hs,xs,pr,o',es,ep,ho,hx,hdt,he,_⟩:=I.hok d _ h
 rw[hd]at ho
 cases ho
 refine⟨hs,hd,hx,es,ep,hdt,?_,λi k v e=>?_⟩
 ·have l1:es.size=xs.length:=size_of_entries he
  have l2:kvs.length=xs.length:=Paired.length pr
  omega
 ·obtain⟨b,hb,e1,e2,_⟩:=ph pr e
  have q:=entry_at he i
  rw[hb]at q
  exact⟨_,b.2.1,q,rfl,e2⟩
end
def Itk(d:Addr)(o:Obj)(kvs:List (Key×V)):It :=
 ⟨λi H=>H d=some (.frz o (.dK kvs))/\i<kvs.length,λi H x H'=>H'=H/\∃k v,kvs[i]? = some (k,v)/\x=kV k,λi H=>H d=some (.frz o (.dK kvs))/\kvs.length<=i⟩
def aku(d:Addr)(o:Obj)(kvs:List (List Key×V)):It :=
 ⟨λi H=>H d=some (.frz o (.dT kvs))/\i<kvs.length,λi H x H'=>H'=H/\∃(k:List Key) (v:V) (q:Addr),kvs[i]? = some (k,v)/\x=.ref q/\H q=some (.tup (k.map kV)),λi H=>H d=some (.frz o (.dT kvs))/\kvs.length<=i⟩
theorem aep{o:Obj}{es es':Array DictEntry}{ep ep':Nat}(h:o.data=.dict es ep)(h':o.data=.dict es' ep'):es'=es/\ep'=ep:=by
 rw[h]at h'
 cases h'
 exact⟨rfl,rfl⟩
section
variable{P:Program}{w:World}{K:PySem.W.Frag}{tg:Expr}{d:Addr}{o:Obj}{es:Array DictEntry}{ep:Nat}
theorem a4g{kvs:List (Key×V)}(it:Addr)(hod:o.data=.dict es ep):Turn P w K tg (Itk d o kvs) [it] it (λi h=>h.IsKeyIter it d i kvs.length ep) where
 mem:=by simp
 obj:=λi h st b hb=>by
  have e:b=it:=by simpa using hb
  subst e
  obtain⟨oi,e,c,dd⟩:=st
  exact⟨oi,e,λv z=>by rw[dd]at z;cases z⟩
 keep:=λi h h' st k=>st.at λoi e=>k it (by simp) oi e
 item:=by
  intro X hP hw hK hc i pins s σ H E I hf st hg
  subst hP hw hK
  obtain⟨hd,hi⟩:=hg
  obtain⟨f0,f1,f2,f3,f4,f5⟩:=hf it (by simp)
  obtain⟨hs,hgd,hx,es',ep',vs,hdt,hsz,kv,hm⟩:=I.ag7 hd
  obtain⟨rfl,rfl⟩:=aep hod hdt
  obtain⟨⟨k,v⟩,hkv⟩:∃p,kvs[i]? = some p:=⟨kvs[i],List.getElem?_eq_getElem hi⟩
  obtain⟨u,hu,ru⟩:=av6 kv hkv
  have hl:kvs.length=vs.length:=Paired.length kv
  rw[hl]at st
  refine wpAny_pyNext_dict_item st hm hu λkey h' hkey st' sb=>?_
  have I1:Inv X pins σ H {s with heap:=h'}:=I.turned (t':=s.toks) (λb ob hb e=>(sb.2 b hb).trans e) f0 f1 f3 f4 f5
  obtain⟨oi,e,c,dd⟩:=id st'
  refine⟨key,rfl,abd (s:={s with heap:=h'}) e c dd (by decide) ⟨kV k,H,I1,a04 (show xq k key=true from hkey),⟨rfl,k,v,hkv,rfl⟩,?_,λb hb=>(hf b hb).1⟩⟩
  show h'.IsKeyIter it d (i+1) kvs.length _
  rw[hl]
  exact st'
 done:=by
  intro X hP hw hK hc i pins s σ H E I hf st hg
  subst hP hw hK
  obtain⟨hd,hi⟩:=hg
  obtain⟨f0,f1,f2,f3,f4,f5⟩:=hf it (by simp)
  obtain⟨hs,hgd,hx,es',ep',vs,hdt,hsz,kv,hm⟩:=I.ag7 hd
  obtain⟨rfl,rfl⟩:=aep hod hdt
  exact anl (I.ok.hd hc) st hgd hdt hsz hi λh' eb=>⟨rfl,I.turned (t':=s.toks) (λb ob hb e=>eb b ob hb e) f0 f1 f3 f4 f5⟩
 self:=λA i s Q E st h=>wpAny_pyIter_keyiter st h
theorem a4h{kvs:List (List Key×V)}(it:Addr)(hod:o.data=.dict es ep):Turn P w K tg (aku d o kvs) [it] it (λi h=>h.IsKeyIter it d i kvs.length ep) where
 mem:=by simp
 obj:=λi h st b hb=>by
  have e:b=it:=by simpa using hb
  subst e
  obtain⟨oi,e,c,dd⟩:=st
  exact⟨oi,e,λv z=>by rw[dd]at z;cases z⟩
 keep:=λi h h' st k=>st.at λoi e=>k it (by simp) oi e
 item:=by
  intro X hP hw hK hc i pins s σ H E I hf st hg
  subst hP hw hK
  obtain⟨hd,hi⟩:=hg
  obtain⟨f0,f1,f2,f3,f4,f5⟩:=hf it (by simp)
  obtain⟨hs,hgd,hx,es',ep',hdt,hsz,ent⟩:=I.ag8 hd
  obtain⟨rfl,rfl⟩:=aep hod hdt
  obtain⟨⟨k,v⟩,hkv⟩:∃p,kvs[i]? = some p:=⟨kvs[i],List.getElem?_eq_getElem hi⟩
  obtain⟨en,q,hen,hkey,hq⟩:=ent i k v hkv
  refine aw6 st hgd hdt hsz hen λh' st' sb=>?_
  have I1:Inv X pins σ H {s with heap:=h'}:=I.turned (t':=s.toks) (λb ob hb e=>(sb.2 b hb).trans e) f0 f1 f3 f4 f5
  obtain⟨oi,e,c,dd⟩:=id st'
  exact⟨en.key,rfl,abd (s:={s with heap:=h'}) e c dd (by decide) ⟨.ref q,H,I1,hkey,⟨rfl,k,v,q,hkv,rfl,hq⟩,st',λb hb=>(hf b hb).1⟩⟩
 done:=by
  intro X hP hw hK hc i pins s σ H E I hf st hg
  subst hP hw hK
  obtain⟨hd,hi⟩:=hg
  obtain⟨f0,f1,f2,f3,f4,f5⟩:=hf it (by simp)
  obtain⟨hs,hgd,hx,es',ep',hdt,hsz,ent⟩:=I.ag8 hd
  obtain⟨rfl,rfl⟩:=aep hod hdt
  exact anl (I.ok.hd hc) st hgd hdt hsz hi λh' eb=>⟨rfl,I.turned (t':=s.toks) (λb ob hb e=>eb b ob hb e) f0 f1 f3 f4 f5⟩
 self:=λA i s Q E st h=>by
  refine wpAny_pyIter_slot st.typeIs F.slot_dict_keyiterator_iter (wpAny_call_entry F.slot_dict_keyiterator_iter st.typeIs F.entry_dict_keyiterator_iter ?_ (F.args_dict_keyiterator_iter_1 _))
  show wpAny _ _ (ret (.ref it)) _ _ s
  exact wpAny_pure ⟨_,rfl, "dict_keyiterator",_,st.typeIs,F.slot_dict_keyiterator_next.lookup,h⟩
end
def amr(td:TE):TI:=λσ H R=>td σ H λx H1=>∃d o,x=.ref d/\((∃kvs,H1 d=some (.frz o (.dK kvs))/\R (Itk d o kvs) H1)\/∃kvs,H1 d=some (.frz o (.dT kvs))/\R (aku d o kvs) H1)
section
variable{X:Cx}{tg e:Expr}{td:TE}{apos cpos:Pos}
theorem a0d(he:PE X e td):PI X tg e (amr td):=by
 intro pins s σ H R I h
 refine thn (he pins s σ H _ I h) λu s1 ⟨x,H1,I1,rx,d,o,ex,q⟩=>?_
 subst ex
 obtain rfl:u=Value.ref d:=rx
 rcases q with ⟨kvs,hd,q⟩ | ⟨kvs,hd,q⟩
 ·obtain⟨hs,hgd,hx,es,ep,vs,hdt,hsz,kv,hm⟩:=I1.ag7 hd
  refine amz hs hgd hx hdt (adw (tk:=s1.toks) I1 _ (a4g _ hdt) ⟨_,Heap.get?_push_size _ rfl,rfl,?_⟩ q)
  rw[hsz]<;>rfl
 ·obtain⟨hs,hgd,hx,es,ep,hdt,hsz,ent⟩:=I1.ag8 hd
  refine amz hs hgd hx hdt (adw (tk:=s1.toks) I1 _ (a4h _ hdt) ⟨_,Heap.get?_push_size _ rfl,rfl,?_⟩ q)
  rw[hsz]<;>rfl
end
theorem alk:bootBuiltins "zip" = some (.type "zip"):=by decide +kernel
def Itz(K:PySem.W.Frag)(a b:Addr):It :=
 ⟨λi H=>∃(xs ys:List V) (x y:V),SqL K H a xs/\SqL K H b ys/\xs[i]? = some x/\ys[i]? = some y,
  λi H v H'=>∃T x y,v=.ref T/\H T=none/\H'=upd H T (.tup [x,y])/\(∀xs,SqL K H a xs->xs[i]? = some x)/\∀ys,SqL K H b ys->ys[i]? = some y,
  λi H=>∃xs ys:List V,SqL K H a xs/\SqL K H b ys/\(xs.length<=i\/ys.length<=i)⟩
theorem a4m{P:Program}{w:World}{K:PySem.W.Frag}{elts:List Expr}{kk:Nat}{tpos:Pos}{a b z TI TO i1 i2:Addr}(D:ZipApart z TI TO i1 i2 a b):
  Turn P w K (.Tuple elts kk tpos) (Itz K a b) [z,TI,TO,i1,i2] z (λi h=>IsZip h z TI TO .none/\IsPair h TI (.ref i1) (.ref i2)/\(∃x y,IsPair h TO x y)/\h.IsListIter i1 a i/\h.IsListIter i2 b i) where
 mem:=by simp
 obj:=λi h st c hc=>by
  obtain⟨hz,hTI,⟨x,y,hTO⟩,⟨o1,e1,_,d1⟩,⟨o2,e2,_,d2⟩⟩:=st
  have e':c=z\/c=TI\/c=TO\/c=i1\/c=i2:=by simpa using hc
  rcases e' with q | q | q | q | q
  ·rw[q];exact⟨_,hz,λv q=>nomatch q⟩
  ·rw[q];exact⟨_,hTI,λv q=>nomatch q⟩
  ·rw[q];exact⟨_,hTO,λv q=>nomatch q⟩
  ·rw[q];exact⟨o1,e1,λv q=>by rw[d1]at q;cases q⟩
  ·rw[q];exact⟨o2,e2,λv q=>by rw[d2]at q;cases q⟩
 keep:=λi h h' st k=>by
  obtain⟨hz,hTI,⟨x,y,hTO⟩,h1,h2⟩:=st
  exact⟨k z (by simp) _ hz,k TI (by simp) _ hTI,⟨x,y,k TO (by simp) _ hTO⟩,h1.at λo q=>k i1 (by simp) o q,h2.at λo q=>k i2 (by simp) o q⟩
 item:=by
  intro X hP hw hK hc i pins s σ H E I hf st hg
  subst hP hw hK
  obtain⟨hz,hTI,⟨x0,y0,hTO⟩,h1,h2⟩:=st
  obtain⟨xs,ys,x,y,hqx,hqy,hx,hy⟩:=hg
  obtain⟨its,rv,p,_⟩:=I.list hqx
  obtain⟨its2,rv2,p2,_⟩:=I.list hqy
  obtain⟨u,hu,ru⟩:=rv.get hx
  obtain⟨u2,hu2,ru2⟩:=rv2.get hy
  have hzl:z<s.heap.objs.size:=Heap.lt_size hz
  refine wpAny_pyNext_zip_item D hz hTI hTO h1 h2 p.isList p2.isList (x:=u) (y:=u2) (by simpa using hu) (by simpa using hu2) λh' z' TO' h1' h2' hT hsz hk=>?_
  refine⟨_,rfl,wpAny_letOwnedTupleGo_zip (s:={s with heap:=h'}) z' λh'' z'' sb=>?_⟩
  have hT2:h''.get? s.heap.objs.size=some {cls:=.type "tuple",data:=.seq #[u,u2]}:=(sb.2 _ (Nat.ne_of_gt hzl)).trans hT
  have new:gq X.prog X.w (upd H s.heap.objs.size (.tup [x,y])) h'' s.heap.objs.size (.tup [x,y]) :=
   ⟨by show 2<=sizeLine;decide,[u,u2],.cons ru (.cons ru2 .nil),⟨_,hT2,rfl,_,rfl⟩⟩
  have I1:Inv X pins σ (upd H s.heap.objs.size (.tup [x,y])) {s with heap:=h''} :=
   I.arz (t':=s.toks) (ch:=[z,TI,TO,i1,i2]) (λc o hb q=>(sb.2 c (λq'=>hb (by simp[q']))).trans (hk c o (λq'=>hb (by simp[q'])) (λq'=>hb (by simp[q'])) (λq'=>hb (by simp[q'])) (λq'=>hb (by simp[q'])) q)) hf (Nat.le_refl _) new
  refine⟨.ref s.heap.objs.size,_,I1,rfl,⟨_,x,y,rfl,I.hok.fresh (Nat.le_refl _),rfl,λl hl=>by rw[I.ae3 hl hqx];exact hx,λl hl=>by rw[I.ae3 hl hqy];exact hy⟩,⟨z'',?_,⟨u,u2,?_⟩,?_,?_⟩,λc hcm=>?_⟩
  ·exact(sb.2 _ D.TIz).trans (hk _ _ D.TIz D.TITO D.TIi1 D.TIi2 hTI)
  ·exact(sb.2 _ D.TOz).trans TO'
  ·exact h1'.at λo q=>(sb.2 _ D.i1z).trans q
  ·exact h2'.at λo q=>(sb.2 _ D.i2z).trans q
  ·have hlt:c<s.heap.objs.size:=by
    have e':c=z\/c=TI\/c=TO\/c=i1\/c=i2:=by simpa using hcm
    rcases e' with q | q | q | q | q
    ·rw[q];exact hzl
    ·rw[q];exact Heap.lt_size hTI
    ·rw[q];exact Heap.lt_size hTO
    ·rw[q];obtain⟨_,e1,_⟩:=h1;exact Heap.lt_size e1
    ·rw[q];obtain⟨_,e2,_⟩:=h2;exact Heap.lt_size e2
   rw[ao (Nat.ne_of_lt hlt)]
   exact(hf c hcm).1
 done:=by
  intro X hP hw hK hc i pins s σ H E I hf st hg
  subst hP hw hK
  obtain⟨hz,hTI,⟨x0,y0,hTO⟩,h1,h2⟩:=st
  obtain⟨xs,ys,hqx,hqy,hend⟩:=hg
  obtain⟨its,rv,p,_⟩:=I.list hqx
  obtain⟨its2,rv2,p2,_⟩:=I.list hqy
  have l1:=rv.length
  have l2:=rv2.length
  have he:its.toArray[i]? = none\/its2.toArray[i]? = none:=by
   rcases hend with q | q
   ·exact .inl (by simp;omega)
   ·exact .inr (by simp;omega)
  exact wpAny_pyNext_zip_end (I.ok.hd hc) D hz hTI hTO h1 h2 p.isList p2.isList he λh' hk=>⟨rfl,I.arx (t':=s.toks) (ch:=[z,TI,TO,i1,i2]) (λc o hb q =>
   hk c o (λq'=>hb (by simp[q'])) (λq'=>hb (by simp[q'])) (λq'=>hb (by simp[q'])) (λq'=>hb (by simp[q'])) q) hf⟩
 self:=λA i s Q E st h=>wpAny_pyIter_zip st.1 h
def ave(K:PySem.W.Frag)(ta:TA):TI:=λσ H R=>ta σ H λvs H1=>∃a b xs ys,vs=[.ref a,.ref b]/\SqL K H1 a xs/\SqL K H1 b ys/\R (Itz K a b) H1
theorem aoa{X:Cx}{e e2:Expr}{ta:TA}{p pos tpos:Pos}{elts:List Expr}{kk:Nat}(hg:Gl X "zip")(hm:X.mg "zip" = none)(ha:PA X [e,e2] ta)
  (hs:starEach [e,e2] X.env=(false,eval e X.env)::starEach [e2] X.env:=by rfl) (hpl:(backTo pos (starEach [e2] X.env)).any (·.1)=false:=by rfl) :
  PI X (.Tuple elts kk tpos) (.Call (.Name "zip" p) [e,e2] [] pos) (ave X.K ta):=by
 intro pins s σ H R I h
 refine Call_ (ab8 I hg hm alk (PyProof.Rows.callWith_type1 (thn (ha pos pins s σ H _ I h) λus s1 ⟨vs,H1,I1,r1,q1⟩=>?_) hs hpl))
 obtain⟨a,b,xs,ys,ex,hqx,hqy,q⟩:=q1
 subst ex
 cases r1 with
 | cons r rr =>
  cases rr with
  | cons r' rr =>
   cases rr
   cases r
   cases r'
   obtain⟨its,rv,p1,_⟩:=I1.list hqx
   obtain⟨its2,rv2,p2,_⟩:=I1.list hqy
   have la:a<s1.heap.objs.size:=p1.lt
   have lb:b<s1.heap.objs.size:=p2.lt
   refine call_zip_2 p1.isList p2.isList λh' hz hTI hTO h1 h2 hsz hk=>wpAny_pyIter_zip hz ?_
   have I2:Inv X pins σ H1 {s1 with heap:=h'}:=I1.kept (t':=s1.toks) hk
   refine⟨s1.heap.objs.size+4,[s1.heap.objs.size+4,s1.heap.objs.size+2,s1.heap.objs.size+3,s1.heap.objs.size,s1.heap.objs.size+1],_,_,H1,rfl,I2,a4m (PySem.W.ktu_apart s1.heap.objs.size a b la lb),⟨hz,hTI,⟨_,_,hTO⟩,h1,h2⟩,λc hcm=>?_,q⟩
   have e':c=s1.heap.objs.size+4\/c=s1.heap.objs.size+2\/c=s1.heap.objs.size+3\/c=s1.heap.objs.size\/c=s1.heap.objs.size+1:=by simpa using hcm
   have hle:s1.heap.objs.size<=c:=by
    rcases e' with z | z | z | z | z
    ·rw[z];exact Nat.le_add_right _ _
    ·rw[z];exact Nat.le_add_right _ _
    ·rw[z];exact Nat.le_add_right _ _
    ·rw[z];exact Nat.le_refl _
    ·rw[z];exact Nat.le_add_right _ _
   exact I1.abb hle (I1.hok.fresh hle)
end L2
section
namespace TL
open PySem PySem.Builtin PySem.Builtin.Str PySem.StrLaws
abbrev tl(x:Str):List Nat:=x.cps.toList
theorem awe(x:Str):x.length=(tl x).length:=by simp[tl,Str.length]
def pre(S l:List Nat):Bool:=l.take S.length==S
def par(S:List Nat):List Nat->List Nat->Option (List Nat×List Nat)
 | _,[]=>none
 | acc,c::r=>if pre S (c::r)=true then some (acc,(c::r).drop S.length)else par S (acc++[c]) r
def abe(n:Nat):List Nat:=(Nat.toDigits 10 n).map Char.toNat
theorem arq(n:Nat):tl (Str.ofString (toString ((n:Nat):Int)))=abe n:=PySem.W.KIN.signs_num n
theorem aly:∀d:Nat,d<10->(Nat.digitChar d).toNat=48+d:=by decide
theorem axb{n:Nat}(h:n<10):abe n=[48+n]:=by
 unfold abe
 rw[Nat.toDigits_of_lt_base h]
 show[(Nat.digitChar n).toNat]=_
 rw[aly n h]
theorem axc{n:Nat}(h:10<=n):abe n=abe (n / 10)++[48+n % 10]:=by
 have hm:n % 10<10:=Nat.mod_lt n (by decide)
 have t:Nat.toDigits 10 (n / 10)++Nat.toDigits 10 (n % 10)=Nat.toDigits 10 (10*(n / 10)+n % 10):=Nat.toDigits_append_toDigits (by decide) (by omega) hm
 rw[Nat.div_add_mod]at t
 show(Nat.toDigits 10 n).map Char.toNat=_
 rw[<-t,List.map_append,Nat.toDigits_of_lt_base hm]
 show(Nat.toDigits 10 (n / 10)).map Char.toNat++[(Nat.digitChar (n % 10)).toNat]=_
 rw[aly _ hm]<;>rfl
theorem axa{n k:Nat}(hk:0<k)(h:n<10 ^ k):(abe n).length<=k:=by
 have z:=PyProof.Rows.toString_length_le (v:=(n:Int)) (by omega) hk (by
  have e:((10:Int) ^ k)=((10 ^ k:Nat):Int):=by
   first
    | exact(Int.natCast_pow 10 k).symm
    | simp
  rw[e]
  first | exact Int.ofNat_lt.mpr h | omega)
 rw[awe,arq]at z
 exact z
end TL
end
namespace L2
open PySem PySem.Spec PyProof.Rows
def inClass(s:Stmt)(j:Nat):Stmt:=match s with
 | .ClassDef _ _ _ body _ _ _ _ _ _ _=>body.getD j (.Pass ⟨0,0,0,0⟩)
 | _=>.Pass ⟨0,0,0,0⟩
def aag(s:Stmt):Arguments:=match s with
 | .FunctionDef _ a _ _ _ _ _ _ _ _=>a
 | _=>{posonlyargs:=[],args:=[],vararg:=none,kwonlyargs:=[],kw_defaults:=[],kwarg:=none,defaults:=[]}
def uh(s:Stmt):List Stmt:=match s with
 | .FunctionDef _ _ b _ _ _ _ _ _ _=>b
 | _=>[]
def bj(s:Stmt):Scope:=match s with
 | .FunctionDef _ _ _ _ _ _ sc _ _ _=>sc
 | _=>{kind:=.function,names:=[],isGenerator:=false,isCoroutine:=false}
abbrev CX0:CXT:=λ_ _ _ _ _ _=>False
abbrev E0:XK:=λ_ _ _=>False
theorem bu{X:Cx}:Passes CX0 X E0:=λ_ _ _ _ _ _ _ h=>h.elim
structure Fun(K:PySem.W.Frag)(x qual:Str)(st:Stmt)(f:Addr)(fd:FuncData):Prop where
 ex:∃(oc:Value) (od:Option Addr) (kV doc pm:Value) (an:Option Addr) (cdv ct:Value) (osl:Array (Option Value)),
  fd=PySem.W.fnOf x qual (aag st) (uh st) (bj st) .none kV doc pm an cdv ct/\K.lookup f=some ⟨oc,od,.func fd,osl⟩/\PySem.W.codeIn K cdv qual=true
 kp:PySem.W.keepIn K (.ref f)=true
section
variable{P:Program}{w:World}{K:PySem.W.Frag}{mg:Str->Option Value}{base:Heap}
theorem Fun.ok{x qual:Str}{st:Stmt}{f:Addr}{fd:FuncData}{N ps:List Str}{k:Nat}{sp:Sp}(F:Fun K x qual st f fd)(S:cu N ps (bj st))(len:∀vs H Q E,sp vs H Q E->vs.length=ps.length)
  (hbody:∀(cdv:Value) (A:Around) (outer:List Env) (s:Shared) (H:Hp) (vs:List V) (Q:VK) (E:XK),fj k (A.deeper (envOfC qual (bj st) s.heap.objs.size f cdv))->sp vs H Q E ->
   ∃t,PSs (jo CX0 P w K mg base N qual (bj st) f cdv A outer s H E).nox (uh st) t/\t {nx:=λ_ H'=>Q .non H',rt:=Q} (start N vs) H):jm P w K mg base CX0 (k+1) f fd ps sp:=by
 obtain⟨oc,od,kV,doc,pm,an,cdv,ct,osl,rfl,lk,hcd⟩:=F.ex
 refine amd lk hcd S len λA outer s H vs Q E hr hsp=>?_
 obtain⟨t,h,q⟩:=hbody cdv A outer s H vs Q E hr hsp
 exact⟨t,h.nox,q⟩
theorem Fun.binds{x qual:Str}{st:Stmt}{f:Addr}{fd:FuncData}{ps:List Str}(F:Fun K x qual st f fd)
  (h:∀(kV doc pm:Value) (an:Option Addr) (cdv ct:Value) (us:List Value),us.length=ps.length->bindArgs (PySem.W.fnOf x qual (aag st) (uh st) (bj st) .none kV doc pm an cdv ct) ⟨us,[]⟩=pure (ps.zip us)):Binds K fd ps []:=by
 obtain⟨oc,od,kV,doc,pm,an,cdv,ct,osl,rfl,lk,hcd⟩:=F.ex
 exact .all (h kV doc pm an cdv ct)
theorem ag9{x qual:Str}{st:Stmt}{f:Addr}{oc:Value}{od an:Option Addr}{osl:Array (Option Value)}{kV doc pm cdv ct:Value}(l:K.lookup f=some ⟨oc,od,.func (PySem.W.fnOf x qual (aag st) (uh st) (bj st) .none kV doc pm an cdv ct),osl⟩)
  (c:PySem.W.codeIn K cdv qual=true) (k:PySem.W.keepIn K (.ref f)=true):Fun K x qual st f (PySem.W.fnOf x qual (aag st) (uh st) (bj st) .none kV doc pm an cdv ct):=⟨⟨oc,od,kV,doc,pm,an,cdv,ct,osl,rfl,l,c⟩,k⟩
end
theorem ab3{A:Around}{k:Nat}(hr:fj k A):A.units+1<cLine:=Nat.lt_of_le_of_lt (Nat.add_le_add_left (by decide:1<=64) _) hr.units
theorem a2w{n:Nat}(h:n<=1000):n<sizeLine:=Nat.lt_of_le_of_lt h (by decide)
section
variable{X:Cx}
theorem pv(i:Nat){x:Str}{pos:Pos}(hN:X.N[i]? = some x:=by rfl)(hv:Vis X.env.scope x:=by first | exact Or.inl rfl | exact Or.inr (Or.inl rfl) | exact Or.inr (Or.inr rfl))(hd:(x==("__debug__" : Str))=false:=by decide)
  (hcd:(x==("__classdict__" : Str))=false:=by decide):PE X (.Name x pos) (jc i):=az5 hN hv hd hcd
end
theorem gh{A B:Prop}(h:B):if false=true then A else B:=by
 rw[if_neg Bool.false_ne_true]
 exact h
theorem d9{A B:Prop}(h:A):if true=true then A else B:=by
 rw[if_pos rfl]
 exact h
theorem nj{c A B:Prop}[Decidable c](h1:c->A)(h2:¬c->B):if c then A else B:=by
 by_cases h:c
 ·rw[if_pos h]
  exact h1 h
 ·rw[if_neg h]
  exact h2 h
def az(H H':Hp):Prop:=∀b o,H b=some o->H' b=some o
theorem az.refl(H:Hp):az H H:=λ_ _ h=>h
theorem az.trans{H H1 H2:Hp}(a:az H H1)(b:az H1 H2):az H H2:=λc o h=>b c o (a c o h)
theorem az.free{H H':Hp}(e:az H H'){l:Addr}(h:H' l=Option.none):H l=Option.none:=by
 cases q:H l with
 | none=>rfl
 | some o =>
  rw[e l o q]at h
  cases h
theorem az.seq{K:PySem.W.Frag}{H H':Hp}{a:Addr}{xs:List V}(e:az H H')(h:SqL K H a xs):SqL K H' a xs:=by
 rcases h with (h | ⟨o,h⟩) | h
 ·exact .inl (.inl (e _ _ h))
 ·exact .inl (.inr ⟨o,e _ _ h⟩)
 ·exact .inr h
section
variable{κ:Type}[DecidableEq κ]
theorem a4u{kvs:List (κ×V)}{k:κ}{v:V}(h:jd kvs k=some v):k∈kvs.map (·.1):=by
 have q:(kvs.any λkv=>decide (kv.1=k))=true:=by
  rw[acx,h]
  all_goals rfl
 obtain⟨p,hp,e⟩:=List.any_eq_true.mp q
 exact List.mem_map.mpr ⟨p,hp,of_decide_eq_true e⟩
end
theorem az.made{H H1:Hp}{x dx C:Addr}(nx:H x=Option.none)(nd:H dx=Option.none)(k:∀b o,(upd (upd H dx (.own x)) x (.ins C dx [])) b=some o->b≠x->H1 b=some o):az H H1:=λb o e =>
 k b o (by rw[ao (bx e nx),ao (bx e nd)];exact e) (bx e nx)
end L2
section
namespace L2
open PySem PySem.Spec PyProof.Rows
open PySem.W (WData Codec OpenSpec Well WellAll ReadsW ReadsAllW)
mutual
inductive Dw(K:PySem.W.Frag)(H:Hp):V->WData->Prop
 | non:Dw K H .non .none
 | bl (b:Bool):Dw K H (.bl b) (.bool b)
 | int (i:Int):Dw K H (.int i) (.int i)
 | str (x:Str):Dw K H (.str x) (.str x)
 | byt (b:Array UInt8):Dw K H (.byt b) (.bytes b.toList)
 | lst {a:Addr}{xs:List V}{ds:List WData}:SqL K H a xs->vm K H xs ds->Dw K H (.ref a) (.list ds)
 | tup {a:Addr}{xs:List V}{ds:List WData}:SqT K H a xs->vm K H xs ds->Dw K H (.ref a) (.tuple ds)
inductive vm(K:PySem.W.Frag)(H:Hp):List V->List WData->Prop
 | nil:vm K H [] []
 | cons {v:V}{vs:List V}{d:WData}{ds:List WData}:Dw K H v d->vm K H vs ds->vm K H (v::vs) (d::ds)
end
theorem al1{K:PySem.W.Frag}{H:Hp}:∀ns:List Int,vm K H (ns.map V.int) (ns.map WData.int)
 | []=>.nil
 | n::r=>.cons (.int n) (al1 r)
theorem amt{K:PySem.W.Frag}{H:Hp}:∀(ns:List Int) (xs:List V),vm K H xs (ns.map WData.int)->xs=ns.map V.int
 | [],xs,h=>by
  cases h
  rfl
 | n::r,xs,h=>by
  cases h with
  | cons h1 h2 =>
   cases h1
   rw[amt r _ h2]<;>rfl
section
variable{P:Program}{w:World}{K:PySem.W.Frag}{H:Hp}{h:Heap}{R:PySem.W.WRecords}{cl:Str->Option Addr}
theorem a3c{a:Addr}{xs:List V}(hok:HOk P w H h)(KX:K.In h)(q:SqL K H a xs):∃(its:List Value) (o:Obj) (n:Nat),Vals xs its/\h.get? a=some o/\o.cls=.type "list" /\ o.data=.seq its.toArray n:=by
 rcases q with q | ⟨o,its,n,e,hc,_,hd,_,hv⟩
 ·obtain⟨_,its,n,hv,e⟩:=(show gq P w H h a (.lst xs) from q.ok hok)
  exact⟨its,_,n,hv,e,rfl,rfl⟩
 ·exact⟨its.toList,o,n,hv,KX _ _ e,hc,by simp[hd]⟩
theorem a3d{a:Addr}{xs:List V}(hok:HOk P w H h)(KX:K.In h)(q:SqT K H a xs):∃(its:List Value) (o:Obj) (n:Nat),Vals xs its/\h.get? a=some o/\o.cls=.type "tuple" /\ o.data=.seq its.toArray n:=by
 rcases q with q | ⟨o,its,n,e,hc,hd,_,hv⟩
 ·obtain⟨_,its,hv,o,e,hc,n,hd⟩:=(show gq P w H h a (.tup xs) from q.ok hok)
  exact⟨its,o,n,hv,e,hc,hd⟩
 ·exact⟨its.toList,o,n,hv,KX _ _ e,hc,by simp[hd]⟩
mutual
theorem Dw.reads(hok:HOk P w H h)(KX:K.In h):∀(d:WData) (v:V) (u:Value),Dw K H v d->RelV v u->∃as,ReadsW R cl h u d as
 | .none,_,_,x,r=>by
  cases x
  cases r
  exact⟨_,ReadsW.none⟩
 | .bool b,_,_,x,r=>by
  cases x
  cases r
  exact⟨_,ReadsW.bool b⟩
 | .int i,_,_,x,r=>by
  cases x
  obtain⟨t,rfl⟩:=r
  exact⟨_,ReadsW.int i t⟩
 | .str s,_,_,x,r=>by
  cases x
  obtain⟨t,rfl⟩:=r
  exact⟨_,ReadsW.str s t⟩
 | .bytes b,_,_,x,r=>by
  cases x
  obtain⟨t,rfl⟩:=r
  exact⟨_,ReadsW.bytes _ t⟩
 | .list ds,_,_,x,r=>by
  cases x with
  | lst hs ha =>
   cases r
   obtain⟨its,o,n,rv,ho,hc,hd⟩:=a3c hok KX hs
   obtain⟨as,hr⟩:=Dw.readsAll hok KX ds _ its ha rv
   exact⟨_,ReadsW.list ho hc hd hr⟩
 | .tuple ds,_,_,x,r=>by
  cases x with
  | tup hs ha =>
   cases r
   obtain⟨its,o,n,rv,ho,hc,hd⟩:=a3d hok KX hs
   obtain⟨as,hr⟩:=Dw.readsAll hok KX ds _ its ha rv
   exact⟨_,ReadsW.tuple ho hc hd hr⟩
 | .float _,_,_,x,_=>by cases x
 | .dict _,_,_,x,_=>by cases x
 | .bytearray _,_,_,x,_=>by cases x
 | .set _,_,_,x,_=>by cases x
 | .frozenset _,_,_,x,_=>by cases x
 | .obj _ _,_,_,x,_=>by cases x
theorem Dw.readsAll(hok:HOk P w H h)(KX:K.In h):∀(ds:List WData) (vs:List V) (us:List Value),vm K H vs ds->Vals vs us->∃as,ReadsAllW R cl h us ds as
 | [],_,_,x,r=>by
  cases x
  cases r
  exact⟨_,ReadsAllW.nil⟩
 | d::ds,_,_,x,r=>by
  cases x with
  | cons h1 h2 =>
   cases r with
   | cons r1 r2 =>
    obtain⟨as,q1⟩:=Dw.reads hok KX d _ _ h1 r1
    obtain⟨bs,q2⟩:=Dw.readsAll hok KX ds _ _ h2 r2
    exact⟨_,ReadsAllW.cons q1 q2⟩
end
end
mutual
def plW:WData->Bool
 | .none=>true
 | .bool _=>true
 | .int _=>true
 | .str _=>true
 | .bytes _=>true
 | .list xs=>wj xs
 | .tuple xs=>wj xs
 | _=>false
def wj:List WData->Bool
 | []=>true
 | x::r=>plW x&&wj r
end
theorem aoe{α:Type}{f:α->WData}(h:∀a,plW (f a)=true):∀l:List α,wj (l.map f)=true
 | []=>rfl
 | x::r=>by
  show(plW (f x)&&wj (r.map f))=true
  rw[h x,aoe h r]<;>rfl
theorem aav:∀(c:Codec) (a:c.denote),plW (c.enc a)=true
 | .unit,_=>rfl
 | .bool,_=>rfl
 | .int _ _,_=>rfl
 | .nat _ _,_=>rfl
 | .u8,_=>rfl
 | .bytes _ _,_=>rfl
 | .text _ _ _ _,_=>rfl
 | .list _ _ c,a=>aoe (λx=>aav c x) a
 | .pair c d,a=>by
  show(plW (c.enc a.1)&&(plW (d.enc a.2)&&true))=true
  rw[aav c a.1,aav d a.2]<;>rfl
 | .triple c d e,a=>by
  show(plW (c.enc a.1)&&(plW (d.enc a.2.1)&&(plW (e.enc a.2.2)&&true)))=true
  rw[aav c a.1,aav d a.2.1,aav e a.2.2]<;>rfl
 | .option c,none=>rfl
 | .option c,some x=>aav c x
theorem aof:∀(cs:List Codec) (a:Codec.denoteAll cs),wj (Codec.encAll cs a)=true
 | [],_=>rfl
 | c::cs,a=>by
  show(plW (c.enc a.1)&&wj (Codec.encAll cs a.2))=true
  rw[aav c a.1,aof cs a.2]<;>rfl
theorem akn:∀{xs:List WData}{d:WData},d∈xs->d.weight<=WData.weightAll xs
 | [],d,h=>absurd h (by simp)
 | x::r,d,h=>by
  show d.weight<=x.weight+1+WData.weightAll r
  rcases List.mem_cons.mp h with e | m
  ·rw[e]
   omega
  ·have z:=akn m
   omega
def toV:Value->V
 | .none=>.non
 | .bool b=>.bl b
 | .int i _=>.int i
 | .str x _=>.str x
 | .bytes b _=>.byt b
 | .ref a=>.ref a
 | _=>.non
def OkU(A:List Addr):Value->Prop
 | .none=>True
 | .bool _=>True
 | .int _ _=>True
 | .str _ _=>True
 | .bytes _ _=>True
 | .ref a=>a∈A
 | _=>False
theorem OkU.mono{A B:List Addr}(h:∀a∈A,a∈B):∀{u:Value},OkU A u->OkU B u:=λ{u} x=>by
 cases u with
 | ref a=>exact h a x
 | none=>trivial
 | bool b=>trivial
 | int i t=>trivial
 | str s t=>trivial
 | bytes b t=>trivial
 | _=>exact False.elim x
theorem a05{A:List Addr}{u:Value}(x:OkU A u):RelV (toV u) u:=by
 cases u with
 | ref a=>rfl
 | none=>rfl
 | bool b=>rfl
 | int i t=>exact⟨t,rfl⟩
 | str s t=>exact⟨t,rfl⟩
 | bytes b t=>exact⟨t,rfl⟩
 | _=>exact False.elim x
theorem acy{A:List Addr}:∀{vs:List Value},(∀u∈vs,OkU A u)->Vals (vs.map toV) vs
 | [],_=>.nil
 | u::r,h=>.cons (a05 (h u (List.mem_cons_self ..))) (acy λx hx=>h x (List.mem_cons_of_mem _ hx))
def vg(h:Heap)(A:List Addr)(a:Addr):Prop:=∃vs:List Value,vs.length<=sizeLine/\(∀u∈vs,OkU A u) /\
 (h.get? a=some {cls:=.type "list",data:=.seq vs.toArray}\/h.get? a=some {cls:=.type "tuple",data:=.seq vs.toArray})
theorem vg.mono{h:Heap}{A B:List Addr}{a:Addr}(k:∀a∈A,a∈B)(x:vg h A a):vg h B a:=by
 obtain⟨vs,h1,h2,h3⟩:=x
 exact⟨vs,h1,λu hu=>(h2 u hu).mono k,h3⟩
theorem agg{P:Params}{h:Heap}:∀{vs:List Value}{ds:List WData},WellAll P h vs ds->vs.length=ds.length
 | _,_,.nil=>rfl
 | _,_,.cons _ b=>by
  show _+1=_+1
  rw[agg b]
theorem ase{P:Params}{h:Heap}{v:Value}{ds:List WData}(x:Well P h v (.list ds)):∃(a:Addr) (vs:List Value),v=.ref a/\h.get? a=some {cls:=.type "list",data:=.seq vs.toArray}/\WellAll P h vs ds:=by
 cases x with
 | list ho hall=>exact⟨_,_,rfl,ho,hall⟩
theorem asf{P:Params}{h:Heap}{v:Value}{ds:List WData}(x:Well P h v (.tuple ds)):∃(a:Addr) (vs:List Value),v=.ref a/\h.get? a=some {cls:=.type "tuple",data:=.seq vs.toArray}/\WellAll P h vs ds:=by
 cases x with
 | tuple ho hall=>exact⟨_,_,rfl,ho,hall⟩
theorem asd{P:Params}{h:Heap}{us:List Value}{d:WData}{ds:List WData}(x:WellAll P h us (d::ds)):∃(v:Value) (vs:List Value),us=v::vs/\Well P h v d/\WellAll P h vs ds:=by
 cases x with
 | cons a b=>exact⟨_,_,rfl,a,b⟩
theorem am7{n:Nat}(h:n<=1048576):n<=sizeLine:=Nat.le_trans h (by decide)
section
variable{P:Params}{h:Heap}
mutual
theorem as9:∀(d:WData) (v:Value),Well P h v d->plW d=true->d.weight<=1048576->∃A:List Addr,OkU A v/\∀a∈A,vg h A a
 | .none,_,x,_,_=>by
  cases x
  exact⟨[],trivial,λa m=>absurd m (by simp)⟩
 | .bool b,_,x,_,_=>by
  cases x
  exact⟨[],trivial,λa m=>absurd m (by simp)⟩
 | .int i,_,x,_,_=>by
  cases x
  exact⟨[],trivial,λa m=>absurd m (by simp)⟩
 | .str s,_,x,_,_=>by
  cases x
  exact⟨[],trivial,λa m=>absurd m (by simp)⟩
 | .bytes b,_,x,_,_=>by
  cases x
  exact⟨[],trivial,λa m=>absurd m (by simp)⟩
 | .list ds,_,x,p,z=>by
  obtain⟨a,vs,rfl,ho,hall⟩:=ase x
  have z2:WData.weightAll ds<=1048576:=z
  obtain⟨A,h1,h2⟩:=aeg ds _ hall p λd hd=>Nat.le_trans (akn hd) z2
  have k:∀b∈A,b∈a::A:=λb hb=>List.mem_cons_of_mem _ hb
  refine⟨a::A,List.mem_cons_self ..,λb hb=>?_⟩
  rcases List.mem_cons.mp hb with e | m
  ·rw[e]
   exact⟨vs,am7 (by rw[agg hall];exact Nat.le_trans (PySem.W.length_le_weightAllW ds) z2),λu hu=>(h1 u hu).mono k,.inl ho⟩
  ·exact(h2 b m).mono k
 | .tuple ds,_,x,p,z=>by
  obtain⟨a,vs,rfl,ho,hall⟩:=asf x
  have z2:WData.weightAll ds<=1048576:=z
  obtain⟨A,h1,h2⟩:=aeg ds _ hall p λd hd=>Nat.le_trans (akn hd) z2
  have k:∀b∈A,b∈a::A:=λb hb=>List.mem_cons_of_mem _ hb
  refine⟨a::A,List.mem_cons_self ..,λb hb=>?_⟩
  rcases List.mem_cons.mp hb with e | m
  ·rw[e]
   exact⟨vs,am7 (by rw[agg hall];exact Nat.le_trans (PySem.W.length_le_weightAllW ds) z2),λu hu=>(h1 u hu).mono k,.inr ho⟩
  ·exact(h2 b m).mono k
 | .float _,_,_,p,_=>Bool.noConfusion (show false=true from p)
 | .dict _,_,_,p,_=>Bool.noConfusion (show false=true from p)
 | .bytearray _,_,_,p,_=>Bool.noConfusion (show false=true from p)
 | .set _,_,_,p,_=>Bool.noConfusion (show false=true from p)
 | .frozenset _,_,_,p,_=>Bool.noConfusion (show false=true from p)
 | .obj _ _,_,_,p,_=>Bool.noConfusion (show false=true from p)
theorem aeg:∀(ds:List WData) (vs:List Value),WellAll P h vs ds->wj ds=true->(∀d∈ds,d.weight<=1048576)->∃A:List Addr,(∀u∈vs,OkU A u)/\∀a∈A,vg h A a
 | [],_,x,_,_=>by
  cases x
  exact⟨[],λu m=>absurd m (by simp),λa m=>absurd m (by simp)⟩
 | d::ds,_,x,p,z=>by
  obtain⟨v,vs,rfl,x1,x2⟩:=asd x
  have q:plW d=true/\wj ds=true:=Bool.and_eq_true_iff.mp p
  obtain⟨A,a1,a2⟩:=as9 d v x1 q.1 (z d (List.mem_cons_self ..))
  obtain⟨B,b1,b2⟩:=aeg ds vs x2 q.2 λe he=>z e (List.mem_cons_of_mem _ he)
  have kA:∀b∈A,b∈A++B:=λb hb=>List.mem_append.mpr (.inl hb)
  have kB:∀b∈B,b∈A++B:=λb hb=>List.mem_append.mpr (.inr hb)
  refine⟨A++B,λu hu=>?_,λb hb=>?_⟩
  ·rcases List.mem_cons.mp hu with e | m
   ·rw[e]
    exact a1.mono kA
   ·exact(b1 u m).mono kB
  ·rcases List.mem_append.mp hb with m | m
   ·exact(a2 b m).mono kA
   ·exact(b2 b m).mono kB
end
end
def aev(o:Obj):Option HO:=match o.data with
 | .seq vs _=>if (o.cls==Value.type "list")=true then some (.frz o (.lst (vs.toList.map toV)))else some (.frz o (.tup (vs.toList.map toV)))
 | _=>none
def nu(K:PySem.W.Frag)(h:Heap)(A:List Addr):Hp:=λb=>if b∈A then(if (K.lookup b).isNone=true then(h.get? b).bind aev else none)else none
def ac2(H:Hp):Prop:=∀b,H b=none\/∃o u,H b=some (.frz o u)
theorem amo(vs:List Value):aev {cls:=.type "list",data:=.seq vs.toArray}=some (.frz {cls:=.type "list",data:=.seq vs.toArray} (.lst (vs.map toV))):=by
 show(if (Value.type "list" == Value.type "list")=true then some (HO.frz {cls:=.type "list",data:=.seq vs.toArray} (.lst (vs.toArray.toList.map toV)))else some (HO.frz {cls:=.type "list",data:=.seq vs.toArray} (.tup (vs.toArray.toList.map toV))))=_
 rw[if_pos (beq_self_eq_true _)]
theorem amq(vs:List Value):aev {cls:=.type "tuple",data:=.seq vs.toArray}=some (.frz {cls:=.type "tuple",data:=.seq vs.toArray} (.tup (vs.map toV))):=by
 show(if (Value.type "tuple" == Value.type "list")=true then some (HO.frz {cls:=.type "tuple",data:=.seq vs.toArray} (.lst (vs.toArray.toList.map toV)))else some (HO.frz {cls:=.type "tuple",data:=.seq vs.toArray} (.tup (vs.toArray.toList.map toV))))=_
 rw[if_neg (by decide)]
section
variable{P:Program}{w:World}{K:PySem.W.Frag}{h:Heap}{A:List Addr}
theorem aeh{b:Addr}{o:Obj}(hb:b∈A)(hk:K.lookup b=none)(e:h.get? b=some o):nu K h A b=aev o:=by
 unfold nu
 rw[if_pos hb,hk,if_pos (show(none:Option Obj).isNone=true from rfl),e]<;>rfl
theorem axf{b:Addr}{u:HO}(q:nu K h A b=some u):b∈A/\K.lookup b=none:=by
 unfold nu at q
 by_cases hb:b∈A
 ·rw[if_pos hb]at q
  cases hk:K.lookup b with
  | none=>exact⟨hb,rfl⟩
  | some o =>
   rw[hk,if_neg (by simp)]at q
   cases q
 ·rw[if_neg hb]at q
  cases q
theorem aei(ar:∀a∈A,vg h A a){b:Addr}{u:HO}(q:nu K h A b=some u):K.lookup b=none/\∃vs:List Value,vs.length<=sizeLine/\(∀u∈vs,OkU A u) /\
  ((h.get? b=some {cls:=.type "list",data:=.seq vs.toArray}/\u=.frz {cls:=.type "list",data:=.seq vs.toArray} (.lst (vs.map toV))) \/
   (h.get? b=some {cls:=.type "tuple",data:=.seq vs.toArray}/\u=.frz {cls:=.type "tuple",data:=.seq vs.toArray} (.tup (vs.map toV)))):=by
 obtain⟨hb,hk⟩:=axf q
 obtain⟨vs,h1,h2,h3⟩:=ar b hb
 refine⟨hk,vs,h1,h2,?_⟩
 rcases h3 with e | e
 ·rw[aeh hb hk e,amo]at q
  exact .inl ⟨e,(Option.some.inj q).symm⟩
 ·rw[aeh hb hk e,amq]at q
  exact .inr ⟨e,(Option.some.inj q).symm⟩
theorem atb(ar:∀a∈A,vg h A a):ac2 (nu K h A):=λb=>by
 cases q:nu K h A b with
 | none=>exact .inl rfl
 | some u =>
  obtain⟨_,vs,_,_,⟨_,e⟩ | ⟨_,e⟩⟩:=aei ar q
  ·exact .inr ⟨_,_,by rw[e]⟩
  ·exact .inr ⟨_,_,by rw[e]⟩
theorem ata(ar:∀a∈A,vg h A a):HOk P w (nu K h A) h:=λb u q=>by
 obtain⟨_,vs,h1,h2,⟨e,rfl⟩ | ⟨e,rfl⟩⟩:=aei ar q
 ·exact⟨e,by rw[List.length_map];exact h1,vs,_,acy h2,e⟩
 ·exact⟨e,by rw[List.length_map];exact h1,vs,acy h2,_,e,rfl,_,rfl⟩
theorem af1{c c':Value}{vs us:List Value}(e:(some {cls:=c,data:=.seq vs.toArray}:Option Obj)=some {cls:=c',data:=.seq us.toArray}):c=c'/\vs=us:=by
 have e1:=Option.some.inj e
 have e2:c=c':=congrArg Obj.cls e1
 have e3:Data.seq vs.toArray=Data.seq us.toArray:=congrArg Obj.data e1
 injection e3 with e4
 refine⟨e2,?_⟩
 have e5:=congrArg Array.toList e4
 simpa using e5
theorem atc(KX:K.In h)(ar:∀a∈A,vg h A a){a:Addr}{vs:List Value}(ha:a∈A)(e:h.get? a=some {cls:=.type "list",data:=.seq vs.toArray}):(∀u∈vs,OkU A u)/\SqL K (nu K h A) a (vs.map toV):=by
 obtain⟨us,h1,h2,h3⟩:=ar a ha
 have hu:us=vs:=by
  rcases h3 with q | q
  ·rw[e]at q
   exact(af1 q).2.symm
  ·rw[e]at q
   exact absurd (Value.type.inj (af1 q).1) (by decide)
 subst hu
 refine⟨h2,?_⟩
 cases hk:K.lookup a with
 | none=>exact .inl (.inr ⟨_,by rw[aeh ha hk e,amo]⟩)
 | some o =>
  have e2:=KX a o hk
  rw[e]at e2
  obtain rfl:=Option.some.inj e2
  exact .inr ⟨_,us.toArray,_,hk,rfl,rfl,rfl,by rw[List.size_toArray];exact h1,by simpa using acy h2⟩
theorem atd(KX:K.In h)(ar:∀a∈A,vg h A a){a:Addr}{vs:List Value}(ha:a∈A)(e:h.get? a=some {cls:=.type "tuple",data:=.seq vs.toArray}):(∀u∈vs,OkU A u)/\SqT K (nu K h A) a (vs.map toV):=by
 obtain⟨us,h1,h2,h3⟩:=ar a ha
 have hu:us=vs:=by
  rcases h3 with q | q
  ·rw[e]at q
   exact absurd (Value.type.inj (af1 q).1) (by decide)
  ·rw[e]at q
   exact(af1 q).2.symm
 subst hu
 refine⟨h2,?_⟩
 cases hk:K.lookup a with
 | none=>exact .inl (.inr ⟨_,by rw[aeh ha hk e,amq]⟩)
 | some o =>
  have e2:=KX a o hk
  rw[e]at e2
  obtain rfl:=Option.some.inj e2
  exact .inr ⟨_,us.toArray,_,hk,rfl,rfl,by rw[List.size_toArray];exact h1,by simpa using acy h2⟩
mutual
theorem auk{Pm:Params}(KX:K.In h)(ar:∀a∈A,vg h A a):∀(d:WData) (v:Value),Well Pm h v d->plW d=true->OkU A v->Dw K (nu K h A) (toV v) d
 | .none,_,x,_,_=>by
  cases x
  exact .non
 | .bool b,_,x,_,_=>by
  cases x
  exact .bl b
 | .int i,_,x,_,_=>by
  cases x
  exact .int i
 | .str s,_,x,_,_=>by
  cases x
  exact .str s
 | .bytes b,_,x,_,_=>by
  cases x
  have z:=Dw.byt (K:=K) (H:=nu K h A) b.toArray
  exact z
 | .list ds,_,x,p,hu=>by
  obtain⟨a,vs,rfl,ho,hall⟩:=ase x
  obtain⟨h2,hs⟩:=atc KX ar hu ho
  exact .lst hs (aeq KX ar ds _ hall p h2)
 | .tuple ds,_,x,p,hu=>by
  obtain⟨a,vs,rfl,ho,hall⟩:=asf x
  obtain⟨h2,hs⟩:=atd KX ar hu ho
  exact .tup hs (aeq KX ar ds _ hall p h2)
 | .float _,_,_,p,_=>Bool.noConfusion (show false=true from p)
 | .dict _,_,_,p,_=>Bool.noConfusion (show false=true from p)
 | .bytearray _,_,_,p,_=>Bool.noConfusion (show false=true from p)
 | .set _,_,_,p,_=>Bool.noConfusion (show false=true from p)
 | .frozenset _,_,_,p,_=>Bool.noConfusion (show false=true from p)
 | .obj _ _,_,_,p,_=>Bool.noConfusion (show false=true from p)
theorem aeq{Pm:Params}(KX:K.In h)(ar:∀a∈A,vg h A a):∀(ds:List WData) (vs:List Value),WellAll Pm h vs ds->wj ds=true->(∀u∈vs,OkU A u)->vm K (nu K h A) (vs.map toV) ds
 | [],_,x,_,_=>by
  cases x
  exact .nil
 | d::ds,_,x,p,hu=>by
  obtain⟨v,vs,rfl,x1,x2⟩:=asd x
  have q:plW d=true/\wj ds=true:=Bool.and_eq_true_iff.mp p
  exact .cons (auk KX ar d v x1 q.1 (hu _ (List.mem_cons_self ..))) (aeq KX ar ds vs x2 q.2 λu m=>hu u (List.mem_cons_of_mem _ m))
end
end
theorem a3a{P:Program}{w:World}{K:PySem.W.Frag}{mg mb:Str->Option Value}{CX:CXT}{k:Nat}{fa:Addr}{fd:FuncData}{ps:List Str}{sp:Sp}{s₁:Shared}{vals:List Value}{ds:List WData}{R:PySem.W.WRecords}{cl:Str->Option Addr}{d0:WData}
  (KX:K.In s₁.heap) (hns:s₁.heap.Ns mainGlobals mg) (hb:s₁.heap.Ns builtinsNs mb) (hbb:∀x:Str,x ≠ "__name__" -> mb x=bootBuiltins x) (hlim:s₁.heap.NoLimit) (hg:s₁.gens=#[])
  (hwl:WellAll w.params s₁.heap vals ds) (hpl:wj ds=true) (hwt:∀d∈ds,d.weight<=1048576) (hr:fj k callerA)
  (F:∀base:Heap,K.In base->base.Ns mainGlobals mg->jm P w K mg base CX k fa fd ps sp) (hbind:∀(s:Shared) (us:List Value),us.length=ps.length->BindsTo s fd ⟨us,[]⟩ (ps.zip us)) (hlen:ds.length=ps.length)
  (hsp:∀(H:Hp) (xs:List V),ac2 H->vm K H xs ds->sp xs H (λv H'=>Dw K H' v d0) λ_ _ _=>False)
  (hCX:∀H e s',CX [] H s₁ (λ_ _ _=>False) e s'->False) :
  codeAny (model P w) callerA (.call (.ref fa) ⟨vals,[]⟩) (λr s'=>∃u as,r=.ok (.ret u)/\ReadsW R cl s'.heap u d0 as/\OldK s₁.heap s'.heap/\s'.os=s₁.os/\AllBare s'.gens) s₁:=by
 obtain⟨A,ho,ar⟩:=aeg ds vals hwl hpl hwt
 have hO:ac2 (nu K s₁.heap A):=atb ar
 have hok:HOk P w (nu K s₁.heap A) s₁.heap:=ata ar
 have hS:=aeq KX ar ds vals hwl hpl ho
 have hV:=acy ho
 have hK:∀b u,nu K s₁.heap A b=some u->K.lookup b=none:=λb u q=>(aei ar q).1
 have noA:∀{b:Addr}{o:Obj}{es:Array DictEntry}{ep:Nat},s₁.heap.get? b=some o->o.data=.dict es ep->nu K s₁.heap A b=none:=λ{b o es ep} e d=>by
  cases q:nu K s₁.heap A b with
  | none=>rfl
  | some u =>
   obtain⟨_,vs,_,_,⟨e2,_⟩ | ⟨e2,_⟩⟩:=aei ar q
   ·rw[e2]at e
    cases e
    have d':Data.seq vs.toArray _=Data.dict es ep:=d
    cases d'
   ·rw[e2]at e
    cases e
    have d':Data.seq vs.toArray _=Data.dict es ep:=d
    cases d'
 generalize nu K s₁.heap A=H at hO hok hS hK noA
 have base_of:∀{b:Addr}{o:Obj},s₁.heap.get? b=some o->H b=none->(zg s₁.heap H).get? b=some o:=λe n=>au6 e n
 have nsK:∀{b:Addr}{m:Str->Option Value},s₁.heap.Ns b m->(zg s₁.heap H).Ns b m:=λ{b m} ⟨o,es,ep,e,d,r⟩=>⟨o,es,ep,base_of e (noA e d),d,r⟩
 have nK:∀b o,K.lookup b=some o->H b=none:=λb o e=>by
  cases q:H b with
  | none=>rfl
  | some u =>
   rw[hK b u q]at e
   cases e
 have hKb:K.In (zg s₁.heap H):=λb o e=>base_of (KX b o e) (nK b o e)
 have hM:Mod K mg (zg s₁.heap H):=⟨hKb,nsK hns,⟨mb,nsK hb,hbb⟩,let ⟨mc,h1,h2⟩:=hlim;⟨mc,nsK h1,h2⟩⟩
 have e0:ye P w K mg (zg s₁.heap H) callerA [] s₁ H:=⟨rfl,hM,λb o e=>axg e,Nat.le_of_eq (au7 _ _),trivial,λb hb=>absurd (show b∈([]:List Addr) from hb) (by simp),hok,.of_eq hg⟩
 have hl:vals.length=ps.length:=by rw[agg hwl];exact hlen
 refine codeAny_mono ((F _ hKb (nsK hns)).run callerA [] s₁ H ⟨vals,[]⟩ vals (vals.map toV) _ _ hr e0 (hbind s₁ vals hl) hV (hsp H _ hO hS)) λr s' x=>?_
 cases r with
 | error e=>exact(hCX H e s' x).elim
 | ok fl =>
  cases fl with
  | next=>exact False.elim x
  | brk=>exact False.elim x
  | cont=>exact False.elim x
  | ret u =>
   obtain⟨v,H',os,bare,un,hok',r',q⟩:=x
   have kept:∀b o,s₁.heap.get? b=some o->s'.heap.get? b=some o:=λb o e=>by
    cases q2:H b with
    | none=>exact un.keep b o e q2 (by intro z;exact absurd (show b∈([]:List Addr) from z) (by simp)) (by simp)
    | some u2 =>
     rcases hO b with z | ⟨ob,u3,z⟩
     ·rw[q2]at z
      cases z
     ·have z2:=un.frzs b ob _ z
      obtain⟨e1,_⟩:=hok b _ z
      obtain⟨e2,_⟩:=hok' b _ z2
      rw[e]at e1
      cases e1
      exact e2
   have KX':K.In s'.heap:=λb o e=>kept b o (KX b o e)
   obtain⟨as,hrd⟩:=Dw.reads (R:=R) (cl:=cl) hok' KX' d0 v u q r'
   exact⟨u,as,rfl,hrd,OldK.of_keep kept,os,bare⟩
theorem awa{ds:List WData}(h:WData.layableAll ds=true):∀d∈ds,d.weight<=1048576:=λd hd =>
 (PySem.W.layableW_iff.mp (List.all_eq_true.mp h d hd)).2.2
theorem al2:∀(cs:List Codec) (a:Codec.denoteAll cs),(Codec.encAll cs a).length=cs.length
 | [],_=>rfl
 | c::cs,a=>by
  show(Codec.encAll cs a.2).length+1=cs.length+1
  rw[al2 cs a.2]
theorem a4v{r:OpenSpec}{k:Nat}{q:Program}{loose:List Str}{XP:(Str->Option Value)->Heap->Prop}{YP:World->Heap->Prop}{d:DefRec}{K:Params->PySem.W.Frag}{CX:World->CXT}{ps:List Str}{sp:World->Sp}
  (hwell:r.wellSaid=true) (hdf:d.params.defaults=[]) (hlen:r.args.length=ps.length) (hr:fj k callerA)
  (hY:∀(w:World) (h:Heap),YP w h->(K w.params).In h)
  (F:∀(w:World) (mg:Str->Option Value) (fa:Addr) (h:Heap),YP w h->(K w.params).In h->h.Ns mainGlobals mg->mg d.name=some (.ref fa) ->
   ∃fd:FuncData,(∀(s:Shared) (us:List Value),us.length=ps.length->BindsTo s fd ⟨us,[]⟩ (ps.zip us)) /\
    ∀base:Heap,(K w.params).In base->base.Ns mainGlobals mg->jm r.prog w (K w.params) mg base (CX w) k fa fd ps (sp w))
  (hsp:∀(w:World) (H:Hp) (xs:List V) (a:Codec.denoteAll r.args),ac2 H->Codec.withinAll r.args a=true->Codec.app r.args r.asked a=true->vm (K w.params) H xs (Codec.encAll r.args a) ->
   sp w xs H (λv H'=>Dw (K w.params) H' v (r.ret.enc (Codec.app r.args r.f a))) λ_ _ _=>False)
  (hCX:∀(w:World) (H:Hp) (s:Shared) (e:Value) (s':Shared),CX w [] H s (λ_ _ _=>False) e s'->False) :
  PySem.W.WalkOS q loose XP YP r d [] (λf vs=>PySem.call f vs):=by
 intro w s_0 s₁ mg mb G Y fa o pm cd doc dV kV ho hd hcd hD hmg hg args vals as hpre hlay hrd hwl hlo
 obtain⟨a,e1,e2⟩:=PySem.W.os_pre_some hpre
 obtain⟨e3,hwi⟩:=Codec.encAll_of_decAll r.args args a e1
 subst e3
 have KX:=hY w _ Y
 obtain⟨fd,hb,hF⟩:=F w mg fa _ Y KX G.T.g hmg
 refine PySem.W.enter_call (codeAny_mono (a3a (R:=[]) (cl:=classAt s_0.heap) (d0:=r.ret.enc (Codec.app r.args r.f a)) KX G.T.g G.T.b G.T.builtins G.T.nolimit hg hwl (aof _ _) (awa hlay) hr hF hb (by rw[al2];exact hlen)
  (λH xs hO hS=>hsp w H xs a hO hwi e2 hS) λH e s'=>hCX w H s₁ e s') λr' s' hq=>?_)
 obtain⟨u,as',rfl,h1,h2,h3,h4⟩:=hq
 exact⟨.inl ⟨u,_,as',rfl,λ_=>rfl,h1,(OpenSpec.post_iff hwell hwi _ _).mpr rfl,λz=>Bool.noConfusion (show false=true from z)⟩,h2,h3,h4⟩
theorem a4w{r:OpenSpec}{k:Nat}{q:Program}{loose:List Str}{XP:(Str->Option Value)->Heap->Prop}{YP:World->Heap->Prop}{d:DefRec}{K:Params->PySem.W.Frag}{CX:CXT}{ps:List Str}{sp:PySem.W.Frag->Sp}
  (hwell:r.wellSaid=true) (hdf:d.params.defaults=[]) (hlen:r.args.length=ps.length) (hr:fj k callerA)
  (hY:∀(w:World) (h:Heap),YP w h->(K w.params).In h)
  (F:∀(w:World) (mg:Str->Option Value) (fa:Addr) (h:Heap),YP w h->(K w.params).In h->h.Ns mainGlobals mg->mg d.name=some (.ref fa) ->
   ∃fd:FuncData,(∀(s:Shared) (us:List Value),us.length=ps.length->BindsTo s fd ⟨us,[]⟩ (ps.zip us)) /\
    ∀base:Heap,(K w.params).In base->base.Ns mainGlobals mg->jm r.prog w (K w.params) mg base CX k fa fd ps (sp (K w.params)))
  (hsp:∀(K:PySem.W.Frag) (H:Hp) (xs:List V) (a:Codec.denoteAll r.args),ac2 H->Codec.withinAll r.args a=true->Codec.app r.args r.asked a=true->vm K H xs (Codec.encAll r.args a) ->
   sp K xs H (λv H'=>Dw K H' v (r.ret.enc (Codec.app r.args r.f a))) λ_ _ _=>False)
  (hCX:∀(H:Hp) (s:Shared) (e:Value) (s':Shared),CX [] H s (λ_ _ _=>False) e s'->False) :
  PySem.W.WalkOS q loose XP YP r d [] (λf vs=>PySem.call f vs) :=
 a4v (K:=K) (CX:=λ_=>CX) (sp:=λw=>sp (K w.params)) hwell hdf hlen hr hY F (λw H xs a h1 h2 h3 h4=>hsp (K w.params) H xs a h1 h2 h3 h4) λ_ H s e s'=>hCX H s e s'
end L2
end
namespace Xc
open PySem PySem.Spec PyProof.Rows L2
theorem auc(o:Obj)(f:Array Value->Array Value):(o.mapFields f).dict=o.dict:=by
 obtain⟨c,d,dt,sl⟩:=o
 cases dt<;>rfl
structure Rc(h:Heap)(e:Addr)(cls:Value)(dx:Option Addr)(vs:Array Value):Prop where
 out:∃o,h.get? e=some o/\o.cls=cls/\o.dict=dx/\o.data=.fields vs
structure Fly(B:Heap)(l:List Env)(e:Addr)(cls:Value)(dx:Option Addr)(fl cx:Option Value)(h:Heap):Prop where
 stays:B.StaysIn h
 new:B.get? e=none
 frames:h.FunFrames B l
 rec_:∃vs,Rc h e cls dx vs/\1<vs.size/\vs[2]? = cx/\(match fl with
  | none=>vs[1]? = some .none
  | some f=>∃T oT ts,vs[1]? = some (.ref T)/\B.get? T=none/\T≠e/\h.get? T=some oT/\oT.data=.fields ts/\ts[3]? = some f)
abbrev Up:=Heap.UpToSlots
section
variable{M:Model}{A:Around}{E:Value->Shared->Prop}{s:Shared}{B:Heap}{env:Env}{outer:List Env}{L e:Addr}{cls:Value}{dx:Option Addr}{cx:Option Value}
theorem al4{vs:Array Value}{head:Value}{had:Bool}{Q:Unit->Shared->Prop}(hA:A.frames=some (env::outer))(hF:s.heap.FunFrames B (env::outer))(hL:env.frame=some L)(kB:B.StaysIn s.heap)(nB:B.get? e=none)
  (R:Rc s.heap e cls dx vs) (hv:1<vs.size) (h2:vs[2]? = cx) (k:∀h',Fly B (env::outer) e cls dx (some (rawInt L)) cx h'->Up s.heap h'->Q () {s with heap:=h'}) :
  wpAny M A (do let a <-frameOf env;let pl <-entryPlaceOf L had;let b <-EntryCells.newEntry head a .none (rawInt L) .none pl;setField (.ref e) 1 b) Q E s:=by
 obtain⟨o,ho,hoc,hod,hof⟩:=R.out
 have eF:e∉(env::outer).filterMap (·.frame):=λm=>by
  obtain⟨_,o',ho',nf⟩:=hF.mem m
  rw[ho]at ho'
  cases ho'
  exact nf vs hof
 refine wpAny_bind (wpAny_frameOf_fun hA hF hL λh1 so=>wpAny_bind (wpAny_entryPlaceOf λpl hpl=>?_))
 unfold EntryCells.newEntry newFields
 refine wpAny_bind (wpAny_newObj_type ?_ (hpl.sizeOk5 _ _ _ _ _))
 generalize hfs:([head,Value.ref L,Value.none,rawInt L,Value.none]++(if pl.isEmpty then List.replicate 6 Value.none else pl)).toArray=fs
 have f3:fs[3]? = some (rawInt L):=by rw[<-hfs];simp
 have ho1:h1.get? e=some o:=(so.2.1 e eF).trans ho
 have ho2:(h1.push {cls:=.type "traceback",dict:=none,data:=.fields fs}).get? e=some o:=Heap.get?_push_of_some _ ho1
 refine wpAny_setField ho2 hof hv (k _ ?_ ?_)
 ·have ne:h1.objs.size≠e:=Nat.ne_of_gt (Heap.lt_size ho1)
  have kB1:B.StaysIn h1:=λb u q=>(so.2.1 b λm=>by rw[(hF.mem m).1]at q;cases q).trans (kB b u q)
  have kp:∀b u,b≠e->h1.get? b=some u->((h1.push {cls:=.type "traceback",dict:=none,data:=.fields fs}).update e (Obj.mapFields (·.setIfInBounds 1 (Value.ref h1.objs.size)))).get? b=some u:=λb u nb q =>
   (Heap.get?_update_other _ _ (Ne.symm nb)).trans (Heap.get?_push_of_some _ q)
  have dn:=Obj.data_mapFields hof (·.setIfInBounds 1 (Value.ref h1.objs.size))
  refine⟨λb u q=>kp b u (λz=>by rw[z,nB]at q;cases q) (kB1 b u q),nB,hF.of_keeps λb u q nf=>?_,vs.setIfInBounds 1 (.ref h1.objs.size),⟨_,Heap.get?_update_self _ ho2 (Obj.isFreed_of_fields dn),(Obj.cls_mapFields _ _).trans hoc,(auc _ _).trans hod,dn⟩,by simpa using hv,by rw[<-h2];simp,h1.objs.size,{cls:=.type "traceback",dict:=none,data:=.fields fs},fs,?_,kB1.fresh,ne,?_,rfl,f3⟩
  ·obtain⟨sl,q1⟩:=so.2.2 b u q
   refine⟨_,kp b _ (λz=>?_) q1,rfl⟩
   rw[z,ho]at q
   cases q
   exact nf vs hof
  ·simp[hv]
  ·exact(Heap.get?_update_other _ _ (Ne.symm ne)).trans (Heap.get?_push_size h1 rfl)
 ·intro b u q nf
  obtain⟨sl,q1⟩:=so.2.2 b u q
  refine⟨sl,(Heap.get?_update_other _ _ λz=>?_).trans (Heap.get?_push_of_some _ q1)⟩
  rw[<-z,ho]at q
  cases q
  exact nf vs hof
theorem note{fl:Option Value}{Q:Unit->Shared->Prop}(hA:A.frames=some (env::outer))(hL:env.frame=some L)(hfl:fl=none\/fl=some .none)(F:Fly B (env::outer) e cls dx fl cx s.heap)
  (k:∀h',Fly B (env::outer) e cls dx (some (rawInt L)) cx h'->Up s.heap h'->Q () {s with heap:=h'}):wpAny M A (noteFrame (.ref e) env) Q E s:=by
 obtain⟨vs,R,hv,h2,hm⟩:=F.rec_
 obtain⟨o,ho,hoc,hod,hof⟩:=R.out
 unfold noteFrame
 simp only[hL]
 rcases hfl with rfl | rfl
 ·refine wpAny_bind (wpAny_field ho hof hm ?_)
  rw[if_neg (by decide)]
  exact al4 hA F.frames hL F.stays F.new R hv h2 k
 ·obtain⟨T,oT,ts,h1,nT,neT,hT,hTd,h3⟩:=hm
  refine wpAny_bind (wpAny_field ho hof h1 ?_)
  rw[if_pos (show(Value.ref T != Value.none)=true by simp)]
  refine wpAny_bind (wpAny_field hT hTd h3 ?_)
  rw[if_neg (show ¬((Value.none==rawInt L)=true) by simp[rawInt])]
  refine wpAny_bind (wpAny_setField hT hTd (Array.getElem?_eq_some_iff.mp h3).1 ?_)
  have ot:∀b,b≠T->(s.heap.update T (Obj.mapFields (·.setIfInBounds 3 Value.none))).get? b=s.heap.get? b:=λb nb=>Heap.get?_update_other _ _ (Ne.symm nb)
  have nr:∀b u,s.heap.get? b=some u->(∀ws,u.data≠.fields ws)->b≠T:=λb u q nf z=>by
   rw[z,hT]at q
   cases q
   exact nf ts hTd
  refine al4 hA (F.frames.of_keeps λb u q nf=>⟨u,(ot b (nr b u q nf)).trans q,rfl⟩) hL (λb u q=>(ot b λz=>by rw[z,nT]at q;cases q).trans (F.stays b u q)) F.new
   ⟨o,(ot e (Ne.symm neT)).trans ho,hoc,hod,hof⟩ hv h2 λh' F' U=>k h' F' λb u q nf=>U b u ((ot b (nr b u q nf)).trans q) nf
theorem aw9{Q:Unit->Shared->Prop}(hL:env.frame=some L)(F:Fly B (env::outer) e cls dx (some (rawInt L)) cx s.heap)(k:Q () s):wpAny M A (noteFrame (.ref e) env) Q E s:=by
 obtain⟨vs,R,hv,h2,T,oT,ts,h1,nT,neT,hT,hTd,h3⟩:=F.rec_
 obtain⟨o,ho,hoc,hod,hof⟩:=R.out
 unfold noteFrame
 simp only[hL]
 refine wpAny_bind (wpAny_field ho hof h1 ?_)
 rw[if_pos (show(Value.ref T != Value.none)=true by simp)]
 refine wpAny_bind (wpAny_field hT hTd h3 ?_)
 rw[if_pos (show(rawInt L==rawInt L)=true by simp)]
 exact wpAny_pure k
theorem land{f:Value}{Q:Unit->Shared->Prop}{l:List Env}(F:Fly B l e cls dx (some f) cx s.heap)(k:∀h',Fly B l e cls dx (some .none) cx h'->Up s.heap h'->Q () {s with heap:=h'}):
  wpAny M A (setFlight (.ref e) none) Q E s:=by
 obtain⟨vs,R,hv,h2,T,oT,ts,h1,nT,neT,hT,hTd,h3⟩:=F.rec_
 obtain⟨o,ho,hoc,hod,hof⟩:=R.out
 have hz:3<ts.size:=(Array.getElem?_eq_some_iff.mp h3).1
 have ot:∀b,b≠T->(s.heap.update T (Obj.mapFields (·.setIfInBounds 3 Value.none))).get? b=s.heap.get? b:=λb nb=>Heap.get?_update_other _ _ (Ne.symm nb)
 have nr:∀b u,s.heap.get? b=some u->(∀ws,u.data≠.fields ws)->b≠T:=λb u q nf z=>by
  rw[z,hT]at q
  cases q
  exact nf ts hTd
 unfold setFlight
 refine wpAny_bind (wpAny_field ho hof h1 ?_)
 rw[if_pos (show(Value.ref T != Value.none)=true by simp)]
 refine wpAny_setField hT hTd hz (k _ ?_ ?_)
 ·have dn:=Obj.data_mapFields hTd (·.setIfInBounds 3 Value.none)
  exact⟨λb u q=>(ot b λz=>by rw[z,nT]at q;cases q).trans (F.stays b u q),F.new,F.frames.of_keeps λb u q nf=>⟨u,(ot b (nr b u q nf)).trans q,rfl⟩,vs,
   ⟨o,(ot e (Ne.symm neT)).trans ho,hoc,hod,hof⟩,hv,h2,T,_,_,h1,nT,neT,Heap.get?_update_self _ hT (Obj.isFreed_of_fields dn),dn,by simp[hz]⟩
 ·exact λb u q nf=>⟨u.slots,(ot b (nr b u q nf)).trans q⟩
theorem leave{fl:Option Value}{Q:Unit->Shared->Prop}(hA:A.frames=some (env::outer))(hL:env.frame=some L)(hfl:fl=none\/fl=some .none)(F:Fly B (env::outer) e cls dx fl cx s.heap)
  (k:∀h',Fly B outer e cls dx (some .none) cx h'->Up s.heap h'->Q () {s with heap:=h'}):wpAny M A (leaving env (.ref e)) Q E s:=by
 unfold leaving
 refine wpAny_bind (note hA hL hfl F λh1 F1 U1=>land (s:={s with heap:=h1}) F1 λh2 F2 U2=>k h2 ⟨F2.stays,F2.new,F2.frames.2.2,F2.rec_⟩ (U1.trans U2))
theorem awc{Q:Unit->Shared->Prop}(hL:env.frame=some L)(F:Fly B (env::outer) e cls dx (some (rawInt L)) cx s.heap)
  (k:∀h',Fly B outer e cls dx (some .none) cx h'->Up s.heap h'->Q () {s with heap:=h'}):wpAny M A (leaving env (.ref e)) Q E s:=by
 unfold leaving
 exact wpAny_bind (aw9 hL F (land F λh2 F2 U2=>k h2 ⟨F2.stays,F2.new,F2.frames.2.2,F2.rec_⟩ U2))
theorem ato{f:Value}{Q:Value->Shared->Prop}(hL:env.frame=some L)(F:Fly B (env::outer) e cls dx (some f) cx s.heap)
  (k:∀h',Fly B (env::outer) e cls dx (some (rawInt L)) cx h'->Up s.heap h'->Q (.ref e) {s with heap:=h'}):cameBackBy M A env Q (.ref e) s:=by
 obtain⟨vs,R,hv,h2,T,oT,ts,h1,nT,neT,hT,hTd,h3⟩:=F.rec_
 obtain⟨o,ho,hoc,hod,hof⟩:=R.out
 have hz:3<ts.size:=(Array.getElem?_eq_some_iff.mp h3).1
 have ot:∀b,b≠T->(s.heap.update T (Obj.mapFields (·.setIfInBounds 3 (rawInt L)))).get? b=s.heap.get? b:=λb nb=>Heap.get?_update_other _ _ (Ne.symm nb)
 have nr:∀b u,s.heap.get? b=some u->(∀ws,u.data≠.fields ws)->b≠T:=λb u q nf z=>by
  rw[z,hT]at q
  cases q
  exact nf ts hTd
 show wpAny M A (do
  if (<-field (.ref e) 1) == .none then unsupported "frame.own-activation:exception-without-traceback"
  setFlight (.ref e) env.frame) _ _ s
 refine wpAny_bind (wpAny_field ho hof h1 ?_)
 rw[if_neg (show ¬(Value.ref T==Value.none)=true by simp)]
 rw[hL]
 unfold setFlight
 refine wpAny_bind (wpAny_field ho hof h1 ?_)
 rw[if_pos (show(Value.ref T != Value.none)=true by simp)]
 refine wpAny_setField hT hTd hz (k _ ?_ ?_)
 ·have dn:=Obj.data_mapFields hTd (·.setIfInBounds 3 (rawInt L))
  exact⟨λb u q=>(ot b λz=>by rw[z,nT]at q;cases q).trans (F.stays b u q),F.new,F.frames.of_keeps λb u q nf=>⟨u,(ot b (nr b u q nf)).trans q,rfl⟩,vs,
   ⟨o,(ot e (Ne.symm neT)).trans ho,hoc,hod,hof⟩,hv,h2,T,_,_,h1,nT,neT,Heap.get?_update_self _ hT (Obj.isFreed_of_fields dn),dn,by simp[hz]⟩
 ·exact λb u q nf=>⟨u.slots,(ot b (nr b u q nf)).trans q⟩
end
structure uy(K:PySem.W.Frag)(C:Addr):Prop where
 obj:∃nm q N bs bm sn sub ab col dd k0 k1 k2 k3 k5,K.lookup C=some (excClassObj nm q C N bs bm true sn sub ab col dd k0 k1 k2 k3 k5 "Exception.__new__") /\
  bm.contains (.type "Exception")=true/\bm.contains (.type "BaseException")=true/\bm.contains (.type "AttributeError")=false/\bm.contains (.type "NameError")=false
section
variable{prog:Program}{w:World}{A:Around}{E:Value->Shared->Prop}{h:Heap}{g:Array GenState}{d:Drawn}{t:Nat}{os:OsState}
variable{nm q:Str}{C N:Addr}{bs bm:List Value}{hdct:Bool}{sn:List Str}{sub:List Value}{ab:Bool}{col:Option Bool}{dd:Option Addr}{k0 k1 k2 k3 k5:Option Value}
theorem aw4{M:Model}{us:List Value}{Q:Unit->Shared->Prop}(hc:h.get? C=some (excClassObj nm q C N bs bm hdct sn sub ab col dd k0 k1 k2 k3 k5 "Exception.__new__"))(b1:bm.contains (.type "Exception")=true)
  (hq:Q () ⟨h,g,d,t,os⟩):wpAny M A (checkBuiltinCall "Exception.__new__" ⟨.ref C::us,[]⟩) Q E ⟨h,g,d,t,os⟩:=by
 have F:=F.excBase_Exception
 have c1:(Value.ref C::bm).contains (.type "Exception")=true:=by rw[List.contains_cons,b1,Bool.or_true]
 have st:=F.noStar
 simp only[checkBuiltinCall,F.newKind,F.newSplit,F.newRow]
 repeat (first | refine wpAny_loadPart_at hc ?_ | (refine wpAny_isSubtype_exc hc ?_;rw[c1]) | refine wpAny_staticBase_exc hc ?_ | refine wpAny_madeBy_exc hc ?_ | simp only[bne_self_eq_false,Bool.false_eq_true,if_false] | wp_step)
 exact hq
theorem aw5{us:List Value}{R:Result->Shared->Prop}(hc:h.get? C=some (excClassObj nm q C N bs bm hdct sn sub ab col dd k0 k1 k2 k3 k5 "Exception.__new__"))(b1:bm.contains (.type "Exception")=true)
  (b3:bm.contains (.type "AttributeError")=false) (b4:bm.contains (.type "NameError")=false) (hl:us.length<=sizeLine)
  (hq:R (.ok (.ret (.ref (h.objs.size+1)))) ⟨(h.push {cls:=.type "tuple",data:=.seq us.toArray}).push {cls:=.ref C,data:=.fields #[.ref h.objs.size,.none,.none,.none,.bool false,.none]},g,d,t,os⟩) :
  codeAny (model prog w) A (.builtin "Exception.__new__" ⟨.ref C::us,[]⟩) R ⟨h,g,d,t,os⟩:=by
 have F:=F.excBase_Exception
 have fe:=F.ends
 have c1:(Value.ref C::bm).contains (.type "Exception")=true:=by rw[List.contains_cons,b1,Bool.or_true]
 have c3:(Value.ref C::bm).contains (.type "AttributeError")=false:=by rw[List.contains_cons,b3];rfl
 have c4:(Value.ref C::bm).contains (.type "NameError")=false:=by rw[List.contains_cons,b4];rfl
 refine codeAny_builtinAt F.entry ?_
 unfold Builtin.«BaseException.__new__»
 refine PySem.wpAt_bind ?_
 show PySem.wpAt _ _ _ (stack >>= _) _ _ _
 refine PySem.wpAt_bind (PySem.wpAt_stack λp below=>PySem.wpAt_of_wpAny ?_)
 wp_walk
 refine PySem.wpAt_of_wpAny ?_
 rw[F.owner]
 repeat (first | with_reducible refine wpAny_madeHere_exc F.canon hc ?_ | with_reducible refine wpAny_loadPart_at hc ?_ | (with_reducible refine wpAny_isSubtype_exc hc ?_;first | rw[c1] | rw[c3] | rw[c4]) | wp_step)
 show R _ _
 rw[Heap.size_push]
 exact hq
theorem a4r{K:PySem.W.Frag}{us:List Value}{fI:Addr}{Q:PySem.Fin->Shared->Prop}(X:K.In h)(hc:h.get? C=some (excClassObj nm q C N bs bm true sn sub ab col dd k0 k1 k2 k3 k5 "Exception.__new__"))
  (b1:bm.contains (.type "Exception")=true) (b3:bm.contains (.type "AttributeError")=false) (b4:bm.contains (.type "NameError")=false) (hl:us.length<=sizeLine)
  (hi:PySem.W.findIn K (.ref C) "__init__" = some (some (.ref fI))) (hf:PySem.W.isFn K (.ref fI)=true)
  (hq:wpAny (model prog w) A (call (.ref fI) (.ref (h.objs.size+1)::us)) (λr s'=>r=.none/\Q (.done (.ret (.ref (h.objs.size+1)))) s') E
   ⟨(h.push {cls:=.type "tuple",data:=.seq us.toArray}).push {cls:=.ref C,data:=.fields #[.ref h.objs.size,.none,.none,.none,.bool false,.none]},g,d,t,os⟩) :
  wpAny (model prog w) A (Builtin.«type.__call__» ⟨.ref C::us,[]⟩) Q E ⟨h,g,d,t,os⟩:=by
 repeat (first | with_reducible refine wpAny_loadPart_at hc ?_ | with_reducible refine wpAny_madeBy_exc hc ?_ | wp_step)
 refine codeAny_call_builtin_code (Code.quiet_builtin _ F.excBase_Exception.quiet) (aw4 hc b1 (aw5 hc b1 b3 b4 hl ?_))
 show wpAny _ _ _ _ _ _
 have kp:∀b o,h.get? b=some o->((h.push {cls:=.type "tuple",data:=.seq us.toArray}).push {cls:=.ref C,data:=.fields #[.ref h.objs.size,.none,.none,.none,.bool false,.none]}).get? b=some o :=
  λb o e=>Heap.get?_push_of_some _ (Heap.get?_push_of_some _ e)
 have hc':=kp _ _ hc
 have X':=X.keeps kp
 have he:((h.push {cls:=.type "tuple",data:=.seq us.toArray}).push {cls:=.ref C,data:=.fields #[.ref h.objs.size,.none,.none,.none,.bool false,.none]}).get? (h.objs.size+1)
   = some {cls:=.ref C,data:=.fields #[.ref h.objs.size,.none,.none,.none,.bool false,.none]}:=by heap_get
 have cc:(Value.ref C::bm).contains (.ref C)=true:=by simp
 unfold isInstance
 repeat (first | with_reducible refine wpAny_loadPart_at he ?_ | (with_reducible refine wpAny_isSubtype_exc hc' ?_;rw[cc]) | wp_step)
 show wpAny _ _ (typeLookup (.ref C) _) _ _ _
 refine(PySem.W.looks_findIn (M:=model prog w) X' hi).at ?_
 refine wpAny_holding (wpAny_bind ((PySem.W.bind_fn (M:=model prog w) X' _ (beq_iff_eq.mp hf)).at ?_))
 refine wpAny_bind (wpAny_mono hq (λr s' z=>?_) λ_ _ z=>z)
 obtain⟨rfl,z⟩:=z
 wp_walk
 exact z
theorem ane{K:PySem.W.Frag}{us:List Value}{fI:Addr}{Q:Value->Shared->Prop}(X:K.In h)(xc:uy K C)(hi:PySem.W.findIn K (.ref C) "__init__" = some (some (.ref fI)))(hf:PySem.W.isFn K (.ref fI)=true)(hl:us.length<=sizeLine)
  (hq:wpAny (model prog w) (A.under (.builtin "type.__call__" ⟨.ref C::us,[]⟩)) (call (.ref fI) (.ref (h.objs.size+1)::us)) (λr s'=>r=.none/\Q (.ref (h.objs.size+1)) s') E
   ⟨(h.push {cls:=.type "tuple",data:=.seq us.toArray}).push {cls:=.ref C,data:=.fields #[.ref h.objs.size,.none,.none,.none,.bool false,.none]},g,d,t,os⟩) :
  wpAny (model prog w) A (call (.ref C) us) Q E ⟨h,g,d,t,os⟩:=by
 obtain⟨nm,q,N,bs,bm,sn,sub,ab,col,dd,k0,k1,k2,k3,k5,lk,b1,b2,b3,b4⟩:=xc.obj
 have hc:=X _ _ lk
 have f1:=tc_lookup
 have f2:=tc_bind (.ref C)
 have tI:(⟨h,g,d,t,os⟩:Shared).TypeIs (.ref C) "type" := ⟨_,hc,rfl⟩
 refine wpAny_call (codeAny_of_tree ?_)
 show wpAny _ _ (callAny (.ref C) _) _ _ _
 repeat (any_goals (first | assumption | with_reducible refine wpAny_loadPart_at hc ?_ | wp_step))
 refine⟨rfl,?_⟩
 exact codeAny_call_builtin_at (Code.quiet_builtin _ (by decide +kernel)) entry_typeCall (wpAny_check_type_call_sub hc (a4r X hc b1 b3 b4 hl hi hf hq))
end
open PySem.W (Looks looks_findIn looks_clsIn findIn clsIn InstAt)
open Builtin Builtin.ObjectAttr
inductive Over:List Value->Prop where
 | base:Over [.type "Exception",.type "BaseException",.type "object"]
 | own {c:Addr}{r:List Value}(h:Over r):Over (.ref c::r)
theorem Over.passes(self:Value){l:List Value}(o:Over l):refuseLoop self "__setattr__" l=pure ():=by
 induction o with
 | base=>exact F.store_Exception.passes self
 | own _ ih=>rw[refuseLoop_ref];exact ih
theorem Over.has{l:List Value}(o:Over l):l.contains (.type "object")=true/\l.contains (.type "BaseException")=true:=by
 induction o with
 | base=>decide +kernel
 | own _ ih=>rw[List.contains_cons,List.contains_cons,ih.1,ih.2];simp
theorem Over.ne{l:List Value}(o:Over l):l.isEmpty=false:=by cases o<;>rfl
structure ni(K:PySem.W.Frag)(C:Addr)(f:Str):Prop where
 cls:∃cd,clsIn K C=some cd/\Over cd.mro/\cd.hasDict=true
 sa:findIn K (.ref C) "__setattr__" = some (some (.builtin "object.__setattr__"))
 ga:findIn K (.ref C) "__getattribute__" = some (some (.builtin "BaseException.__getattribute__"))
 gt:findIn K (.ref C) "__getattr__" = some none
 no:findIn K (.ref C) f=some none
section
variable{prog:Program}{w:World}{A:Around}{E:Value->Shared->Prop}{s:Shared}{K:PySem.W.Frag}{x C:Addr}{f:Str}{v:Value}{vs:Array Value}
theorem asi{M:Model}{h:Heap}{ox:Obj}{od:Option Obj}(X:K.In h)(a:ni K C f)(I:InstAt h x ox C od):Looks M h (isInstance (.ref x) (.type "object")) true/\Looks M h (isInstance (.ref x) (.type "BaseException")) true:=by
 obtain⟨cd,hc,o,_⟩:=a.cls
 exact⟨I.type.andThen (PySem.W.looks_mroIn X (by unfold PySem.W.mroIn;rw[hc,Option.bind_some,if_neg (by rw[o.ne];decide),o.has.1])),
  I.type.andThen (PySem.W.looks_mroIn X (by unfold PySem.W.mroIn;rw[hc,Option.bind_some,if_neg (by rw[o.ne];decide),o.has.2]))⟩
theorem a2n{Q:Unit->Shared->Prop}(X:K.In s.heap)(a:ni K C f)(hx:s.heap.get? x=some {cls:=.ref C,data:=.fields vs})
  (k:∀h',h'.get? x=some {cls:=.ref C,dict:=some s.heap.objs.size,data:=.fields vs}->h'.Ns1 s.heap.objs.size (λy=>if y=f then some v else none)->(∀b o,b≠x->s.heap.get? b=some o->h'.get? b=some o) ->
   Q () {s with heap:=h',toks:=s.toks+2}):wpAny (model prog w) A (setAttr (.ref x) f v) Q E s:=by
 have I:InstAt s.heap x {cls:=.ref C,data:=.fields vs} C none:=⟨hx,rfl,rfl,trivial⟩
 obtain⟨cd,hc,ov,hd⟩:=a.cls
 refine PySem.W.set_plain X I a.sa ?_
 have SF:=F.store_object
 refine codeAny_call_builtin SF.slot.plain SF.entry (@PySem.W.check_slot (model prog w) _ _ _ "object.__setattr__" "object" "__setattr__" (.ref x) [.str f s.toks,v] [] _ SF.kind SF.split (asi X a I).1 (SF.args (.ref x) (.str f s.toks) v) ?_)
 have hm:Looks (model prog w) s.heap (mroOf (.ref C)) cd.mro:=(looks_clsIn X hc).andThen .now
 rw[PySem.W.osa_eq,refuse_eq]
 refine wpAny_bind (wpAny_bind (I.type (M:=model prog w) _ _ _ _ (λ_ _ e=>e) (wpAny_bind (hm _ _ _ _ (λ_ _ e=>e) ?_))))
 rw[ov.passes]
 refine wpAny_pure (wpAny_bind (I.type (M:=model prog w) _ _ _ _ (λ_ _ e=>e) (wpAny_bind (looks_findIn (M:=model prog w) X a.no _ _ _ _ (λ_ _ e=>e) (wpAny_bind (wpAny_pure ?_))))))
 show wpAny _ _ (storeInOwnDict (.ref x) (.ref C) (.str f s.toks) f v false) _ _ _
 have hx1:(s.heap.push {cls:=.type "dict",data:=.dict #[]}).get? x=some {cls:=.ref C,data:=.fields vs}:=Heap.get?_push_of_some _ hx
 have nx:x≠s.heap.objs.size:=Nat.ne_of_lt (Heap.lt_size hx)
 refine wpAny_bind (wpAny_pure (wpAny_bind (wpAny_bind (wpAny_loadPart hx (wpAny_bind (looks_clsIn (M:=model prog w) X hc _ _ _ _ (λ_ _ e=>e) ?_))))))
 rw[hd]
 refine wpAny_bind (wpAny_alloc (wpAny_bind (wpAny_update hx1 ?_)))
 refine wpAny_pure (wpAny_bind (wpAny_pure (wpAny_bind ?_)))
 generalize hu:(s.heap.push {cls:=.type "dict",data:=.dict #[]}).update x (λo=>{o with dict:=some s.heap.objs.size})=h1
 have g1:h1.get? s.heap.objs.size=some {cls:=.type "dict",data:=.dict #[]}:=by
  rw[<-hu]
  exact(Heap.get?_update_ne _ _ _ _ nx.symm).trans (Heap.get?_push_at rfl rfl)
 have g2:h1.get? x=some {cls:=.ref C,dict:=some s.heap.objs.size,data:=.fields vs}:=by
  rw[<-hu]
  exact Heap.get?_update_self _ hx1 rfl
 have g3:∀b o,b≠x->s.heap.get? b=some o->h1.get? b=some o:=λb o nb q=>by
  rw[<-hu]
  exact(Heap.get?_update_ne _ _ _ _ nb).trans (Heap.get?_push_of_some _ q)
 have n1:h1.Ns s.heap.objs.size (λ_=>none):=⟨_,#[],_,g1,rfl,λe he=>absurd he (by simp),λ_=>rfl⟩
 refine wpAny_nsSet1 (s:={s with heap:=h1,toks:=s.toks+1}) (Heap.Ns1.of_empty n1) λh2 hn hs=>?_
 obtain⟨oD,esD,epD,hoD,hdD,hcD⟩:=hn.count (Within.cons f v Within.nil)
 refine wpAny_bind (wpAny_lookBehind hoD (by rw[hdD];exact pastItsLine_dict (Nat.le_trans hcD (by rw[List.length_cons,List.length_nil,sizeLine_eq];omega))) ?_)
 exact wpAny_pure (k h2 ((hs.2 x nx).trans g2) hn λb o nb q=>(hs.2 b (Nat.ne_of_lt (Heap.lt_size q))).trans (g3 b o nb q))
theorem auz{b:Bool}{ox od:Obj}{Q:Value->Shared->Prop}(X:K.In s.heap)(a:ni K C f)(I:InstAt s.heap x ox C (some od))(hl:PySem.W.lookIn f od=some (some v))(hv:PySem.W.handedIn v=true)
  (h:Q v {s with toks:=s.toks+1}):wpAny (model prog w) A (getAttr (.ref x) f b) Q E s:=by
 obtain⟨cd,hc,ov,hd⟩:=a.cls
 have FA:=F.attr_Exception
 have hf:PySem.W.findObj K C (some od) f=some (.value v):=PySem.W.findObj_own (by unfold PySem.W.hasDictIn;rw[hc];exact hd) a.no rfl hl
 refine wpAny_bind (wpAny_mkText (wpAny_holding (wpAny_bind (I.type (M:=model prog w) _ _ _ _ (λ_ _ e=>e) (wpAny_bind (looks_findIn (M:=model prog w) X a.ga _ _ _ _ (λ_ _ e=>e) ?_))))))
 dsimp only
 rw[show(onTheHeap (Value.ref C)&&Value.builtin "BaseException.__getattribute__" == Value.builtin "object.__getattribute__")=false by rw[show(Value.builtin "BaseException.__getattribute__" == Value.builtin "object.__getattribute__")=false by decide +kernel,Bool.and_false],if_neg (by decide)]
 refine wpAny_bind (looks_findIn (M:=model prog w) X a.gt _ _ _ _ (λ_ _ e=>e) (wpAny_bind (wpAny_attempt (wpAny_holding ?_))))
 unfold callGetattribute
 rw[show(b&&onTheHeap (Value.builtin "BaseException.__getattribute__"))=false from Bool.and_false _,if_neg (by decide)]
 unfold boundAndCalled
 rw[FA.ga.bind]
 refine wpAny_bind (wpAny_pure ?_)
 show wpAny _ _ (call (.builtin "BaseException.__getattribute__") [.ref x,.str f s.toks]) _ _ _
 refine wpAny_call (codeAny_call_builtin FA.ga.plain F.entry_bexc_ga ?_)
 refine @PySem.W.check_slot (model prog w) _ _ _ "BaseException.__getattribute__" "BaseException" "__getattribute__" (.ref x) [.str f s.toks] [] _ (by decide +kernel) (by decide +kernel) (asi X a I).2 (F.args_bexc_ga (.ref x) (.str f s.toks)) ?_
 refine wpAny_bind (wpAny_pure (wpAny_bind (wpAny_pure (wpAny_bind (I.type (M:=model prog w) _ _ _ _ (λ_ _ e=>e) (wpAny_bind (PySem.W.looks_find (M:=model prog w) X I hf _ _ _ _ (λ_ _ e=>e) ?_)))))))
 refine wpAny_pure ?_
 show wpAny _ _ (handedOut v) _ _ _
 rw[PySem.W.handedOut_of hv]
 exact wpAny_pure h
end
def my(e C:Addr)(h:Heap):Prop:=∃t,h.get? e=some {cls:=.ref C,data:=.fields #[.ref t,.none,.none,.none,.bool false,.none]}
def mq(e C dx:Addr)(h:Heap):Prop:=∃vs,Rc h e (.ref C) (some dx) vs/\4<vs.size/\vs[1]? = some .none/\vs[2]? = some .none
def il(e C dx:Addr)(h:Heap):Prop:=∃vs,Rc h e (.ref C) (some dx) vs
theorem aii{h h':Heap}{e:Addr}{c:Value}{d:Option Addr}{vs:Array Value}(r:Rc h e c d vs)(k:∀o,h.get? e=some o->h'.get? e=some o):Rc h' e c d vs :=
 let ⟨o,a,b⟩:=r.out;⟨o,k o a,b⟩
section
variable{P:Program}{w:World}{H:Hp}{h:Heap}{e C dx:Addr}
theorem al8(x:my e C h):gq P w H h e (.ext (my e C)) :=
 ⟨x,let ⟨_,q⟩:=x;⟨_,q⟩,λ_ _ ⟨t,q⟩ k=>⟨t,k _ q⟩⟩
theorem auo(x:mq e C dx h):gq P w H h e (.ext (mq e C dx)) :=
 ⟨x,let ⟨_,r,_⟩:=x;let ⟨o,q,_⟩:=r.out;⟨o,q⟩,λ_ _ ⟨vs,r,z⟩ k=>⟨vs,aii r k,z⟩⟩
theorem ag4(x:il e C dx h):gq P w H h e (.ext (il e C dx)) :=
 ⟨x,let ⟨_,r⟩:=x;let ⟨o,q,_⟩:=r.out;⟨o,q⟩,λ_ _ ⟨vs,r⟩ k=>⟨vs,aii r k⟩⟩
theorem ab2{φ:Heap->Prop}(hok:HOk P w H h)(q:H e=some (.ext φ)):φ h:=(hok e _ q).1
end
def a1b(K:PySem.W.Frag)(ta tv:TE)(f:Str):TS:=λD σ H=>tv σ H λy H1=>ta σ H1 λx H2=>∃e C,x=.ref e/\H2 e=some (.ext (my e C))/\ni K C f /\
 ∀dx,H2 dx=none->D.nx σ (upd (upd H2 dx (.xd [(f,y)])) e (.ext (mq e C dx)))
theorem aoj{X:Cx}{o value:Expr}{f:Str}{pos pos':Pos}{ta tv:TE}(ha:PE X o ta)(hv:PE X value tv)(hs:swapsWith value (some (.Attribute o f pos')) pos.line X.env=pure false):
  PS X (.Assign [.Attribute o f pos'] value pos) (a1b X.K ta tv f):=by
 intro pins s σ H D I h
 refine plainObj_wpAny_Assign_Attribute (thn (hv pins s σ H _ I h) λu s1 ⟨y,H1,I1,ry,q⟩=>thn (ha pins s1 σ H1 _ I1 q) λov s2 ⟨x,H2,I2,rx,e,C,ex,ee,xa,q2⟩=>?_) hs
 subst ex
 obtain rfl:ov=Value.ref e:=rx
 obtain⟨t,he⟩:=ab2 I2.hok ee
 refine a2n I2.kIn xa he λh' g1 g2 g3=>⟨σ,_,?_,q2 _ (I2.hok.fresh (Nat.le_refl _))⟩
 have hn:H2 s2.heap.objs.size=none:=I2.hok.fresh (Nat.le_refl _)
 have ne:s2.heap.objs.size≠e:=λz=>by rw[z,ee]at hn;cases hn
 have hlt:e<s2.heap.objs.size:=Heap.lt_size he
 have got:mq e C s2.heap.objs.size h':=⟨_,⟨_,g1,rfl,rfl,rfl⟩,by show 4<6;decide,rfl,rfl⟩
 have k1:∀b,H2 b=none->b≠e:=λb z q=>by rw[q,ee]at z;cases z
 have k2:∀b u,H2 b=some u->b≠s2.heap.objs.size:=λb u z q=>by rw[q,hn]at z;cases z
 have um:∀b u,H2 b=some u->b≠e->(upd (upd H2 s2.heap.objs.size (.xd [(f,y)])) e (.ext (mq e C s2.heap.objs.size))) b=some u:=λb u z nb=>by rw[ao nb,ao (k2 b u z)];exact z
 refine I2.un (t':=s2.toks+2) ⟨λb o q n _ _=>g3 b o (k1 b n) q,λb o q n _ _=>⟨o.slots,g3 b o (k1 b n) q⟩,λb o q n _=>?_,λb o q _=>?_,λb xs q=>um b _ q (gb q ee (by intro z;cases z)),λb o u q=>um b _ q (gb q ee (by intro z;cases z)),
  λb ps q=>⟨#[],by rw[um b _ q (gb q ee (by intro z;cases z))];simp⟩⟩ (λb u q=>?_)
 ·rw[ao (k1 b n),ao (Nat.ne_of_lt (Heap.lt_size q))]
  exact n
 ·by_cases hb:b=e
  ·subst hb
   exact⟨_,g1⟩
  ·exact⟨o,g3 b o hb q⟩
 ·by_cases hb:b=e
  ·subst hb
   rw[ak]at q
   cases q
   exact auo got
  ·rw[ao hb]at q
   by_cases hb2:b=s2.heap.objs.size
   ·subst hb2
    rw[ak]at q
    cases q
    refine⟨_,g2,λg=>?_⟩
    by_cases hg:g=f
    ·subst hg
     show mz (List.lookup g [(g,y)]) (if g=g then some u else none)
     rw[if_pos rfl]
     simp only[List.lookup,beq_self_eq_true]
     exact ry
    ·show mz (List.lookup g [(f,y)]) (if g=f then some u else none)
     rw[if_neg hg]
     have hb:(g==f)=false:=beq_eq_false_iff_ne.mpr hg
     simp only[List.lookup,hb]
     trivial
   ·rw[ao hb2]at q
    refine(I2.hok b u q).stay (λc v hc r=>g3 c v ?_ r) (λc r=>um c _ r (gb r ee (by intro z;cases z))) λc xs r=>um c _ r (gb r ee (by intro z;cases z))
    rcases hc with rfl | hc
    ·exact hb
    ·exact gb hc ee (by intro z;cases z)
structure XMk(K:PySem.W.Frag)(C f:Addr):Prop where
 xc:uy K C
 init:PySem.W.findIn K (.ref C) "__init__" = some (some (.ref f))
 fn:PySem.W.isFn K (.ref f)=true
 kp:PySem.W.keepIn K (.ref C)=true
def wy(C:Addr)(sp:Sp)(E:XK)(t:TA):TE:=λσ H Q=>t σ H λvs H1=>∀e,H1 e=none->sp (.ref e::vs) (upd H1 e (.ext (my e C))) (λv H2=>v=.non/\Q (.ref e) H2) E
section
variable{X:Cx}{CX:CXT}{k:Nat}{f C:Addr}{fd:FuncData}{ps:List Str}{sp:Sp}{E:XK}{x:Str}{p pos:Pos}{e:Expr}{es:List Expr}{t:TA}
theorem aoy{pins:List (Addr×Obj)}{σ:L2.St}{H:Hp}{s:Shared}{Q:VK}{us:List Value}{vs:List V}(M:XMk X.K C f)(F:jm X.prog X.w X.K X.mg X.base CX k f fd ps sp)(hr:fj (k+1) X.A)(hb:Binds X.K fd ps [])(hz:ps.length<=1000)
  (hx:Passes CX X E) (I:Inv X pins σ H s) (r:Vals vs us) (h:∀e,H e=none->sp (.ref e::vs) (upd H e (.ext (my e C))) (λv H2=>v=.non/\Q (.ref e) H2) E) :
  wpAny (model X.prog X.w) X.A (call (.ref C) us) (EP X pins σ Q) X.xe s:=by
 have hq:=h (s.heap.objs.size+1) (I.hok.fresh (Nat.le_succ _))
 have r2:Vals (V.ref (s.heap.objs.size+1)::vs) (Value.ref (s.heap.objs.size+1)::us):=.cons rfl r
 have hl:(Value.ref (s.heap.objs.size+1)::us).length=ps.length:=by rw[<-r2.length];exact F.len _ _ _ _ hq
 have hu:us.length<=sizeLine:=by rw[sizeLine_eq];rw[List.length_cons]at hl;omega
 have I1:Inv X pins σ H {s with heap:=s.heap.push {cls:=.type "tuple",data:=.seq us.toArray}}:=I.kept (t':=s.toks) λb o q=>Heap.get?_push_of_some _ q
 have I2:Inv X pins σ (upd H (s.heap.objs.size+1) (.ext (my (s.heap.objs.size+1) C))) {s with heap:=(s.heap.push {cls:=.type "tuple",data:=.seq us.toArray}).push {cls:=.ref C,data:=.fields #[.ref s.heap.objs.size,.none,.none,.none,.bool false,.none]}}:=by
  refine I1.laid (t':=s.toks) (λb o q=>Heap.get?_push_of_some _ q) (Nat.le_of_eq (Heap.size_push _ _)) (al8 ⟨s.heap.objs.size,?_⟩)
  have z:=Heap.get?_push_size (s.heap.push {cls:=.type "tuple",data:=.seq us.toArray}) (o:={cls:=.ref C,data:=.fields #[.ref s.heap.objs.size,.none,.none,.none,.bool false,.none]}) rfl
  rwa [Heap.size_push]at z
 obtain⟨hh,g,d,t,os⟩:=s
 refine ane I.kIn M.xc M.init M.fn hu (wpAny_call (codeAny_mono (F.run _ X.stack _ _ ⟨Value.ref (hh.objs.size+1)::us,[]⟩ (Value.ref (hh.objs.size+1)::us) _ _ E (hr.make C us []) (I2.env0.make C us [])
  (by have z:=hb _ (Value.ref (hh.objs.size+1)::us) I2.kIn (by rw[List.append_nil];exact hl);rw[List.append_nil]at z;exact z) r2 hq) λr s' hq'=>?_))
 cases r with
 | error e=>exact hx pins σ _ _ e s' I2 hq'
 | ok fl =>
  cases fl with
  | ret u =>
   obtain⟨v,H',I3,rv,ev,q3⟩:=I2.after hq'
   subst ev
   exact⟨rv,⟨V.ref (hh.objs.size+1),H',I3,rfl,q3⟩⟩
  | next=>exact False.elim hq'
  | brk=>exact False.elim hq'
  | cont=>exact False.elim hq'
theorem az8(M:XMk X.K C f)(F:jm X.prog X.w X.K X.mg X.base CX k f fd ps sp)(hr:fj (k+1) X.A)(hg:Gl X x)(hm:X.mg x=some (.ref C))(hb:Binds X.K fd ps [])(hz:ps.length<=1000)(hx:Passes CX X E)
  (ha:PA X (e::es) t) (hdb:(x==("__debug__" : Str))=false:=by decide) (he:starEach (e::es) X.env=(false,eval e X.env)::starEach es X.env:=by rfl) (hpl:(backTo pos (starEach es X.env)).any (·.1)=false:=by rfl) :
  PE X (.Call (.Name x p) (e::es) [] pos) (wy C sp E t):=by
 intro pins s σ H Q I h
 refine wpAny_Call_Name_kw (vy I hg hm ?_ hdb)
 refine PySem.W.callWith_K (h₀:=X.base) I.ok.mod.kin M.kp (thn (ha pos pins s σ H _ I h) λus s1 ⟨vs,H1,I1,r,q⟩=>⟨I1.kIn,?_⟩) he hpl
 exact aoy M F hr hb hz hx I1 r q
theorem az9(M:XMk X.K C f)(F:jm X.prog X.w X.K X.mg X.base CX k f fd ps sp)(hr:fj (k+1) X.A)(hg:Gl X x)(hm:X.mg x=some (.ref C))(hb:Binds X.K fd ps [])(hz:ps.length<=1000)(hx:Passes CX X E)
  (hdb:(x==("__debug__" : Str))=false:=by decide):PE X (.Call (.Name x p) [] [] pos) (wy C sp E jb):=by
 intro pins s σ H Q I h
 refine wpAny_Call_Name_kw (vy I hg hm ?_ hdb)
 exact PySem.W.callWith_K0 I.kIn M.kp (aoy (us:=[]) M F hr hb hz hx I .nil h)
end
def late(C:Addr):Value:=.int (C:Int) 0
def XC(P:Program)(w:World):CXT:=λouter H s E ev s'=>∃(e C dx:Addr) (B:Heap) (H':Hp) (cx:Option Value),ev=.ref e/\s'.os=s.os/\AllBare s'.gens/\Fly B outer e (.ref C) (some dx) (some .none) cx s'.heap /\
 H' e=some (.ext (il e C dx))/\(∀b o,H' b=some o->b≠e->gq P w H' B b o) /\
 (∀b o,s.heap.get? b=some o->H b=none->b∉frs outer->B.get? b=some o) /\
 (∀b o,s.heap.get? b=some o->b∈frs outer->∃sl,s'.heap.get? b=some {o with slots:=sl}) /\
 (∀b o,s.heap.get? b=some o->H b=none->H' b=none) /\
 (∀b o,s.heap.get? b=some o->b∉frs outer->b=e\/∃o',B.get? b=some o') /\
 (∀b xs,H b=some (.tup xs)->H' b=some (.tup xs))/\(∀b o u,H b=some (.frz o u)->H' b=some (.frz o u))/\(∀b ps,H b=some (.tbl ps)->∃more,H' b=some (.tbl (ps++more))) /\
 (cx=some .none/\E (.ref C) (some dx) H'\/E (late C) (some dx) H')
section
variable{P:Program}{w:World}{K:PySem.W.Frag}{mg:Str->Option Value}{base:Heap}{N:List Str}{qual:Str}{scope:Scope}{f:Addr}{cd:Value}{A:Around}{outer:List Env}{s0:Shared}{H0:Hp}{E:XK}
theorem ae4{h b:Heap}{l:List Env}{a:Addr}{o:Obj}(F:h.FunFrames b l)(ha:a∈frs l)(e:h.get? a=some o):∀vs,o.data≠.fields vs:=by
 obtain⟨_,o',e',n⟩:=F.mem ha
 rw[e]at e'
 cases e'
 exact n
theorem ir:Passes (XC P w) (jo (XC P w) P w K mg base N qual scope f cd A outer s0 H0 E) E:=by
 intro pins σ H s ev s' I h
 obtain⟨e,C,dx,B,H',cx,rfl,hos,hb,F,he,hok,c1,c2,c3,c4,c5,c6,c7,hE⟩:=h
 have nl:∀b o,s0.heap.get? b=some o->b≠s0.heap.objs.size:=λb o q=>Nat.ne_of_lt (Heap.lt_size q)
 have nf:∀b o,s0.heap.get? b=some o->b∉frs outer->b∉frs (envOfC qual scope s0.heap.objs.size f cd::outer):=λb o q n m=>by
  rcases List.mem_cons.mp (I.ad6 b m)with z | z
  ·exact nl b o q z
  ·exact n z
 show wpAny _ _ (leaving _ (.ref e)) _ _ s'
 refine leave (B:=B) I.ok.frames rfl (.inr rfl) F λh' F' U=>?_
 refine⟨e,C,dx,B,H',cx,rfl,hos.trans I.os,hb,F',he,hok,λb o q n m=>?_,λb o q m=>?_,λb o q n=>?_,λb o q m=>?_,λb xs q=>c5 b xs (I.base.tups b xs q),λb o u q=>c6 b o u (I.base.frzs b o u q),λb ps q=>?_,hE⟩
 ·exact c1 b o (I.base.keep b o q n m (by simp[jo])) (I.base.free b o q n (by simp[jo])) (nf b o q m)
 ·obtain⟨sl,q1⟩:=I.base.slot b o q (I.ok.frf b m) m (by simp[jo])
  obtain⟨sl2,q2⟩:=c2 b _ q1 (by show b∈frs (_::outer);unfold frs;rw[List.filterMap_cons];exact List.mem_cons_of_mem _ m)
  obtain⟨sl3,q3⟩:=U b _ q2 (λvs z=>ae4 I.ok.lr m q vs z)
  exact⟨sl3,q3⟩
 ·obtain⟨o',q1⟩:=I.base.there b o q (by simp[jo])
  exact c3 b o' q1 (I.base.free b o q n (by simp[jo]))
 ·obtain⟨o',q1⟩:=I.base.there b o q (by simp[jo])
  exact c4 b o' q1 (nf b o q m)
 ·obtain⟨m1,e1⟩:=I.base.tbls b ps q
  obtain⟨m2,e2⟩:=c7 b _ e1
  exact⟨m1++m2,by rw[e2,Array.append_assoc]⟩
def Throws(X:Cx)(E:XK):Prop:=∀(pins:List (Addr×Obj)) (σ:L2.St) (H:Hp) (s:Shared) (e C dx:Addr),Inv X pins σ H s->H e=some (.ext (mq e C dx))->E (.ref C) (some dx) (upd H e (.ext (il e C dx)))->X.xe (.ref e) s
theorem amc{X:Cx}{pins:List (Addr×Obj)}{σ:L2.St}{H:Hp}{s:Shared}{e C dx:Addr}{φ:Heap->Prop}{vs:Array Value}(I:Inv X pins σ H s)(he:H e=some (.ext φ))(R:Rc s.heap e (.ref C) (some dx) vs)(hv:1<vs.size)(h1:vs[1]? = some .none):
  Fly (PySem.W.hideAll s.heap (e::frs X.stack)) X.stack e (.ref C) (some dx) none vs[2]? s.heap/\(∀b o,(upd H e (.ext (il e C dx))) b=some o->b≠e->gq X.prog X.w (upd H e (.ext (il e C dx))) (PySem.W.hideAll s.heap (e::frs X.stack)) b o):=by
 have hid:∀b u,H b=some u->b≠e->b∉e::frs X.stack:=λb u q nb m=>by
  rcases List.mem_cons.mp m with z | z
  ·exact nb z
  ·rw[I.akh b z]at q
   cases q
 refine⟨⟨λb o q=>PySem.W.of_hideAll _ q,PySem.W.hideAll_none _ (List.mem_cons_self ..),PySem.W.funFrames_hide I.stack λenv m a ha=>List.mem_cons_of_mem _ (List.mem_filterMap.mpr ⟨env,m,ha⟩),vs,R,hv,rfl,h1⟩,λb o q nb=>?_⟩
 rw[ao nb]at q
 refine(I.hok b o q).stay (λc u hc r=>PySem.W.hideAll_get _ r ?_) (λc r=>by rw[ao (gb r he (by intro z;cases z))];exact r) λc xs r=>by rw[ao (gb r he (by intro z;cases z))];exact r
 rcases hc with rfl | hc
 ·exact hid c o q nb
 ·exact hid c _ hc (gb hc he (by intro z;cases z))
theorem auu{X:Cx}{pins:List (Addr×Obj)}{σ:L2.St}{H:Hp}{s:Shared}{e C dx:Addr}(I:Inv X pins σ H s)(he:H e=some (.ext (mq e C dx))):
  Fly (PySem.W.hideAll s.heap (e::frs X.stack)) X.stack e (.ref C) (some dx) none (some .none) s.heap/\(∀b o,(upd H e (.ext (il e C dx))) b=some o->b≠e->gq X.prog X.w (upd H e (.ext (il e C dx))) (PySem.W.hideAll s.heap (e::frs X.stack)) b o):=by
 obtain⟨vs,R,hv,h1,h2⟩:=ab2 I.hok he
 rw[<-h2]
 exact amc I he R (by omega) h1
theorem ash{pins:List (Addr×Obj)}{σ:L2.St}{H:Hp}{s:Shared}{e C dx:Addr}{φ:Heap->Prop}{cx:Option Value}{h':Heap}(I:Inv (jo (XC P w) P w K mg base N qual scope f cd A outer s0 H0 E) pins σ H s)(he:H e=some (.ext φ))
  (hok:∀b o,(upd H e (.ext (il e C dx))) b=some o->b≠e->gq P w (upd H e (.ext (il e C dx))) (PySem.W.hideAll s.heap (e::frs (envOfC qual scope s0.heap.objs.size f cd::outer))) b o)
  (F':Fly (PySem.W.hideAll s.heap (e::frs (envOfC qual scope s0.heap.objs.size f cd::outer))) outer e (.ref C) (some dx) (some .none) cx h') (U:Up s.heap h')
  (hE:cx=some .none/\E (.ref C) (some dx) (upd H e (.ext (il e C dx)))\/E (late C) (some dx) (upd H e (.ext (il e C dx)))):XC P w outer H0 s0 E (.ref e) {s with heap:=h'}:=by
 have nl:∀b o,s0.heap.get? b=some o->b≠s0.heap.objs.size:=λb o q=>Nat.ne_of_lt (Heap.lt_size q)
 have nf:∀b o,s0.heap.get? b=some o->b∉frs outer->b∉frs (envOfC qual scope s0.heap.objs.size f cd::outer):=λb o q n m=>by
  rcases List.mem_cons.mp (I.ad6 b m)with z | z
  ·exact nl b o q z
  ·exact n z
 have um:∀b u,H b=some u->(∀φ,u≠.ext φ)->(upd H e (.ext (il e C dx))) b=some u:=λb u q n=>by rw[ao (gb q he (n _))];exact q
 refine⟨e,C,dx,_,_,_,rfl,I.os,I.bare,F',ak,hok,λb o q n m=>?_,λb o q m=>?_,λb o q n=>?_,λb o q m=>?_,λb xs q=>um b _ (I.base.tups b xs q) (by intro _ z;cases z),λb o u q=>um b _ (I.base.frzs b o u q) (by intro _ z;cases z),λb ps q=>?_,hE⟩
 ·have n1:=I.base.free b o q n (by simp[jo])
  refine PySem.W.hideAll_get _ (I.base.keep b o q n m (by simp[jo])) λz=>?_
  rcases List.mem_cons.mp z with z | z
  ·rw[z,he]at n1
   cases n1
  ·exact nf b o q m z
 ·obtain⟨sl,q1⟩:=I.base.slot b o q (I.ok.frf b m) m (by simp[jo])
  obtain⟨sl3,q3⟩:=U b _ q1 (λvs z=>ae4 I.ok.lr m q vs z)
  exact⟨sl3,q3⟩
 ·have n1:=I.base.free b o q n (by simp[jo])
  rw[ao (λz=>by rw[z,he]at n1;cases n1)]
  exact n1
 ·by_cases hb:b=e
  ·exact .inl hb
  ·obtain⟨o',q1⟩:=I.base.there b o q (by simp[jo])
   refine .inr ⟨o',PySem.W.hideAll_get _ q1 λz=>?_⟩
   rcases List.mem_cons.mp z with z | z
   ·exact hb z
   ·exact nf b o q m z
 ·obtain⟨m1,e1⟩:=I.base.tbls b ps q
  exact⟨m1,um b _ e1 (by intro _ z;cases z)⟩
theorem wz:Throws (jo (XC P w) P w K mg base N qual scope f cd A outer s0 H0 E) E:=by
 intro pins σ H s e C dx I he hE
 obtain⟨F,hok⟩:=auu I he
 show wpAny _ _ (leaving _ (.ref e)) _ _ s
 exact leave I.ok.frames rfl (.inl rfl) F λh' F' U=>ash I he hok F' U (.inl ⟨rfl,hE⟩)
end
def abv(K:PySem.W.Frag)(E:XK)(te:TE):TS:=λ_ σ H=>te σ H λv H1=>∃e C dx,v=.ref e/\H1 e=some (.ext (mq e C dx))/\uy K C/\E (.ref C) (some dx) (upd H1 e (.ext (il e C dx)))
theorem a0y{M:Model}{A:Around}{E:Value->Shared->Prop}{env:Env}{K:PySem.W.Frag}{s:Shared}{x:Sem Value}{Q:Flow->Shared->Prop}(hh:A.handled=none)
  (h:wpAny M A x (λv s1=>∃e C dx,v=.ref e/\K.In s1.heap/\uy K C/\mq e C dx s1.heap/\E (.ref e) s1) E s):wpAny M A (raiseStmt env (some x) none) Q E s:=by
 unfold raiseStmt
 refine wpAny_bind (wpAny_mono h (λv s1 z=>?_) λ_ _ z=>z)
 obtain⟨e,C,dx,rfl,X,xc,⟨vs,R,hv,h1,h2⟩,hE⟩:=z
 obtain⟨nm,q,N',bs,bm,sn,sub,ab,col,dd,k0,k1,k2,k3,k5,lk,b1,b2,b3,b4⟩:=xc.obj
 have hc:=X _ _ lk
 obtain⟨⟨oc,od,odt,osl⟩,ho,rfl,rfl,rfl⟩:=R.out
 have cB:(Value.ref C::bm).contains (.type "BaseException")=true:=by rw[List.contains_cons,b2,Bool.or_true]
 obtain⟨hp,g,d,tk,os⟩:=s1
 repeat (first | with_reducible refine wpAny_loadPart_at ho ?_ | with_reducible refine wpAny_loadPart_at hc ?_ | (with_reducible refine wpAny_isSubtype_exc hc ?_;rw[cB]) | (with_reducible refine wpAny_field ho rfl h1 ?_) | wp_step)
 exact wpAny_raiseNew_none hh hE
theorem wk{X:Cx}{E:XK}{ex:Expr}{te:TE}{pos:Pos}(hc:X.calm=true)(hT:Throws X E)(he:PE X ex te):PS X (.Raise (some ex) none pos) (abv X.K E te):=by
 intro pins s σ H D I h
 rw[arm_exec_Raise]
 refine wpAny_bind (wpAny_standAt (a0y (K:=X.K) (I.ok.hd hc) (wpAny_bind (thn (he pins s σ H _ I h) λv s1 ⟨x,H1,I1,r1,e,C,dx,ex,ee,xc,hE⟩=>wpAny_bind (wpAny_standAt (wpAny_pure ?_))))))
 subst ex
 obtain rfl:v=Value.ref e:=r1
 exact⟨e,C,dx,rfl,I1.kIn,xc,ab2 I1.hok ee,hT pins σ H1 s1 e C dx I1 ee hE⟩
abbrev zj(X:Cx)(pl:List (Addr×Obj))(E:Value->Shared->Prop):Cx:={X with pn:=X.pn++pl,xe:=E}
abbrev held(X:Cx)(e:Addr):Cx:={X with A:=X.A.mark (some (.ref e)),calm:=false,xe:=λ_ _=>False}
section
variable{X:Cx}{pins pl:List (Addr×Obj)}{σ:L2.St}{H H':Hp}{s s':Shared}{E:Value->Shared->Prop}{e:Addr}
theorem aza(ok:X.Ok):(zj X pl E).Ok:=⟨ok.mod,ok.kind,ok.glob,ok.blt,ok.above,ok.inj,ok.has,ok.cab,ok.hd,ok.frames,ok.stk,ok.exf,ok.bs,ok.bsz,ok.noex,ok.exfs,ok.lr,ok.frf⟩
theorem aze(ok:(zj X pl E).Ok):X.Ok:=⟨ok.mod,ok.kind,ok.glob,ok.blt,ok.above,ok.inj,ok.has,ok.cab,ok.hd,ok.frames,ok.stk,ok.exf,ok.bs,ok.bsz,ok.noex,ok.exfs,ok.lr,ok.frf⟩
theorem ayi(ok:X.Ok):(held X e).Ok:=⟨ok.mod,ok.kind,ok.glob,ok.blt,ok.above,ok.inj,ok.has,ok.cab,(λz=>by cases z),ok.frames,ok.stk,ok.exf,ok.bs,ok.bsz,ok.noex,ok.exfs,ok.lr,ok.frf⟩
theorem azd(hc:X.A.handled=none)(ok:(held X e).Ok):X.Ok:=⟨ok.mod,ok.kind,ok.glob,ok.blt,ok.above,ok.inj,ok.has,ok.cab,λ_=>hc,ok.frames,ok.stk,ok.exf,ok.bs,ok.bsz,ok.noex,ok.exfs,ok.lr,ok.frf⟩
theorem amv(I:Inv X pins σ H s):Inv (zj X pins E) pins σ H s:=⟨aza I.ok,I.os,I.bare,I.base,I.loc,I.cell,I.free,I.freeC,λp hp=>(List.mem_append.mp hp).elim (λz=>I.pin p z) λz=>I.pin p (List.mem_append_right _ z),I.hok,I.len⟩
theorem ab5{pins':List (Addr×Obj)}(I:Inv (zj X pl E) pins' σ H s):Inv X pl σ H s:=⟨aze I.ok,I.os,I.bare,I.base,I.loc,I.cell,I.free,I.freeC,λp hp=>I.pin p (List.mem_append_left _ hp),I.hok,I.len⟩
theorem ahf(I:Inv X pins σ H s):Inv (held X e) pins σ H s:=⟨ayi I.ok,I.os,I.bare,I.base,I.loc,I.cell,I.free,I.freeC,I.pin,I.hok,I.len⟩
theorem avj(hc:X.A.handled=none)(I:Inv (held X e) pins σ H s):Inv X pins σ H s:=⟨azd hc I.ok,I.os,I.bare,I.base,I.loc,I.cell,I.free,I.freeC,I.pin,I.hok,I.len⟩
theorem aa1{D:Ends}{f:Flow}(h:SP (zj X pl E) pl D f s):SP X pl D f s:=by
 cases f with
 | next=>obtain⟨σ',H',I,q⟩:=h;exact⟨σ',H',ab5 I,q⟩
 | brk=>obtain⟨σ',H',I,q⟩:=h;exact⟨σ',H',ab5 I,q⟩
 | cont=>obtain⟨σ',H',I,q⟩:=h;exact⟨σ',H',ab5 I,q⟩
 | ret u=>obtain⟨v,σ',H',I,r,q⟩:=h;exact⟨v,σ',H',ab5 I,r,q⟩
theorem aew{C dx:Addr}{B h2:Heap}{fl cx:Option Value}(I:Inv X pins σ H s)(hos:s'.os=s.os)(hb:AllBare s'.gens)(F:Fly B X.stack e (.ref C) (some dx) fl cx h2)(he:H' e=some (.ext (il e C dx)))
  (hok:∀b o,H' b=some o->b≠e->gq X.prog X.w H' B b o) (c1:∀b o,s.heap.get? b=some o->H b=none->b∉frs X.stack->B.get? b=some o) (c2:∀b o,s.heap.get? b=some o->b∈frs X.stack->∃sl,h2.get? b=some {o with slots:=sl})
  (c3:∀b o,s.heap.get? b=some o->H b=none->H' b=none) (c4:∀b o,s.heap.get? b=some o->b∉frs X.stack->b=e\/∃o',B.get? b=some o')
  (c5:∀b xs,H b=some (.tup xs)->H' b=some (.tup xs)) (c6:∀b o u,H b=some (.frz o u)->H' b=some (.frz o u)) (c7:∀b ps,H b=some (.tbl ps)->∃more,H' b=some (.tbl (ps++more))) :
  Inv X pins σ H' {s' with heap:=h2}:=by
 obtain⟨vs,R,_⟩:=F.rec_
 obtain⟨o0,q0,_⟩:=R.out
 refine I.call' (ch:=[]) hos ⟨λb o q n m _=>F.stays b o (c1 b o q n m),λb o q n m _=>c2 b o q m,λb o q n _=>c3 b o q n,λb o q _=>?_,c5,c6,c7⟩ (λb o q=>?_) hb λb z=>nomatch z
 ·by_cases hm:b∈frs X.stack
  ·obtain⟨sl,z⟩:=c2 b o q hm
   exact⟨_,z⟩
  ·rcases c4 b o q hm with rfl | ⟨o',z⟩
   ·exact⟨_,q0⟩
   ·exact⟨o',F.stays b o' z⟩
 ·by_cases hbe:b=e
  ·subst hbe
   rw[he]at q
   cases q
   exact ag4 ⟨vs,R⟩
  ·exact(hok b o q hbe).stay (λc u _ z=>F.stays c u z) (λ_ z=>z) λ_ _ z=>z
theorem avh{h':Heap}{m':Str->Option Value}{t':Nat}(I:Inv X pins σ H s)(hn:h'.Ns X.env.locals m')(hs:Heap.SameBut X.env.locals s.heap h'):Inv X pins (List.replicate σ.length none) H {s with heap:=h',toks:=t'}:=by
 obtain⟨m,⟨oL,_,_,hL,_⟩,_⟩:=I.loc
 refine⟨I.ok,I.os,I.bare,⟨λb o q n hb hx=>?_,λb o q n hb hx=>?_,I.base.free,λb o q hx=>?_,I.base.tups,I.base.frzs,I.base.tbls⟩,⟨m',hn,λi x v h1 h2 h3=>?_⟩,λx c q=>?_,I.free,I.freeC,λp hp=>?_,λb o q=>?_,by simpa using I.len⟩
 ·exact(hs.2 b (Nat.ne_of_lt (Nat.lt_of_lt_of_le (Heap.lt_size q) I.ok.above))).trans (I.base.keep b o q n hb hx)
 ·obtain⟨sl,z⟩:=I.base.slot b o q n hb hx
  exact⟨sl,(hs.2 b (Nat.ne_of_lt (Nat.lt_of_lt_of_le (Heap.lt_size q) I.ok.above))).trans z⟩
 ·obtain⟨o',z⟩:=I.base.there b o q hx
  exact⟨o',(hs.2 b (Nat.ne_of_lt (Nat.lt_of_lt_of_le (Heap.lt_size q) I.ok.above))).trans z⟩
 ·rw[List.getElem?_replicate]at h2
  split at h2<;>cases h2
 ·obtain⟨v,z⟩:=I.cell x c q
  exact⟨v,z.sameBut hs (I.cne x c q)⟩
 ·obtain⟨z1,z2,z3,z4,z5⟩:=I.pin p hp
  exact⟨(hs.2 p.1 z3).trans z1,z2,z3,z4,z5⟩
 ·refine(I.hok b o q).stay (λc u hc z=>(hs.2 c ?_).trans z) (λ_ z=>z) λ_ _ z=>z
  rintro rfl
  rcases hc with z | z
  ·rw[<-z,I.free]at q
   cases q
  ·rw[I.free]at z
   cases z
end
def aro(K:PySem.W.Frag)(ta:TE)(f:Str):TE:=λσ H Q=>ta σ H λx H1=>∃e C dx fs v,x=.ref e/\H1 e=some (.ext (il e C dx))/\H1 dx=some (.xd fs)/\ni K C f/\fs.lookup f=some v/\Q v H1
theorem az6{X:Cx}{e:Expr}{f:Str}{pos:Pos}{ta:TE}(he:PE X e ta)(hb:attributeBase e f X.env (eval e X.env)=eval e X.env:=by rfl):PE X (.Attribute e f pos) (aro X.K ta f):=by
 intro pins s σ H Q I h
 refine ak4 hb (thn (he pins s σ H _ I h) λu s1 ⟨x,H1,I1,rx,a,C,dx,fs,v,ex,ea,ed,xa,l,q⟩=>?_)
 subst ex
 obtain rfl:u=Value.ref a:=rx
 obtain⟨vs,R⟩:=ab2 I1.hok ea
 obtain⟨⟨oc,od,odt,osl⟩,ho,rfl,rfl,rfl⟩:=R.out
 obtain⟨mA,n1,r⟩:=(show gq X.prog X.w H1 s1.heap dx (.xd fs) from I1.hok dx _ ed)
 obtain⟨od,hod,hl⟩:=anb n1
 obtain⟨u,hu,ru⟩:=mz.some_of (v:=v) (o:=mA f) (by rw[<-l];exact r f)
 exact auz I1.kIn xa ⟨ho,rfl,rfl,hod⟩ (by rw[hl,hu]) (amm ru) ⟨v,H1,I1.tok _,ru,q⟩
def a3w(K:PySem.W.Frag)(C0:Addr)(i n:Nat)(tb:XK->TS)(ts:TS):TS:=λD σ H=>∃EX:XK,tb EX D σ H/\∀e C dx H',EX (.ref C) (some dx) H'\/EX (late C) (some dx) H'->H' e=some (.ext (il e C dx)) ->
 PySem.W.exmOne K (.ref C) (.ref C0)=some true/\ts {nx:=λ_ _=>False,rt:=D.rt} ((List.replicate n none).set i (some (.ref e))) H'
theorem a0l{X:Cx}{C0:Addr}{i:Nat}{x n:Str}{body suite:List Stmt}{b0:Stmt}{tb:XK->TS}{ts:TS}{pos np hpos:Pos}(hc:X.calm=true)(nd:X.N.Nodup)(hi:X.N[i]? = some n)(hn:X.env.scope.names.lookup n=some .local)
  (hg:Gl X x) (hm:X.mg x=some (.ref C0)) (hb:∀(pl:List (Addr×Obj)) (E:Value->Shared->Prop) (EX:XK),Passes (XC X.prog X.w) (zj X pl E) EX->PSs (zj X pl E) body (tb EX)) (hs:∀e,PSs (held X e) (b0::suite) ts)
  (hst:X.stack=X.env::X.outer) (hfr:X.env.frame=some X.env.locals) (hdb:(x==("__debug__" : Str))=false:=by decide) :
  PS X (.Try body [.ExceptHandler (some (.Name x np)) (some n) (b0::suite) hpos] [] [] pos) (a3w X.K C0 i X.N.length tb ts):=by
 intro pins s σ H D I h
 obtain⟨EX,h1,h2⟩:=h
 have hh:X.A.handled=none:=I.ok.hd hc
 refine wpAny_Try_except (wpAny_mono (hb pins _ EX ?_ pins s σ H D (amv I) h1) (λf s1 q=>?_) λev s1 q=>q)
 ·intro pins1 σ1 H1 s1 ev s' I1 z
  obtain⟨e,C,dx,B,H',cx,rfl,hos,hba,F,he,hok,c1,c2,c3,c4,c5,c6,c7,hE⟩:=z
  obtain⟨mt,q2⟩:=h2 e C dx H' (hE.elim (λz=>.inl z.2) .inr) he
  have I1':=ab5 I1
  have F0:Fly B (X.env::X.outer) e (.ref C) (some dx) (some .none) cx s'.heap:=by rw[<-hst];exact F
  have hA:X.A.frames=some (X.env::X.outer):=by rw[<-hst];exact I1'.ok.frames
  show wpAny _ _ (noteFrame (.ref e) X.env) _ _ s'
  refine note hA hfr (.inr rfl) F0 λh2 F2 U2=>land (s:={s' with heap:=h2}) F2 λh3 F3 U3=>?_
  have c2':∀h5,Up s'.heap h5->∀b o,s1.heap.get? b=some o->b∈frs X.stack->∃sl,h5.get? b=some {o with slots:=sl}:=λh5 U b o q m=>by
   obtain⟨sl,z⟩:=c2 b o q m
   have nf:=ae4 I1'.stack m q
   obtain⟨sl2,z2⟩:=U b _ z λvs y=>nf vs y
   exact⟨sl2,z2⟩
  have F3':Fly B X.stack e (.ref C) (some dx) (some .none) cx h3:=by rw[hst];exact F3
  have I3:Inv X pins σ1 H' {s' with heap:=h3}:=aew I1' hos hba F3' he hok c1 (c2' h3 (U2.trans U3)) c3 c4 c5 c6 c7
  have I3h:Inv (held X e) pins σ1 H' {s' with heap:=h3}:=ahf I3
  refine wpAny_handleBy_cons (codeAny_handlers_test (vy I3h hg hm ?_ hdb)) (by intro z;cases z)
  have LT:PySem.W.Looks (model X.prog X.w) h3 (typeOf (.ref e)) (.ref C):=by
   obtain⟨vs,R,_⟩:=F3.rec_
   obtain⟨o,ho,hoc,_⟩:=R.out
   rw[<-hoc]
   exact(PySem.W.Looks.ld ho).andThen .now
  refine PySem.W.Looks.here (s:={s' with heap:=h3}) (PySem.W.exm_one I3h.kIn LT mt) (codeAny_handlers_suite_as ?_)
  refine land (s:={s' with heap:=h3}) F3 λh4 F4 U4=>?_
  have F4':Fly B X.stack e (.ref C) (some dx) (some .none) cx h4:=by rw[hst];exact F4
  have I4:Inv X pins σ1 H' {s' with heap:=h4}:=aew I1' hos hba F4' he hok c1 (c2' h4 ((U2.trans U3).trans U4)) c3 c4 c5 c6 c7
  have I4w:Inv (held X e) pins (List.replicate X.N.length none) H' {s' with heap:=h4}:=(ahf I4).weak (by simp[I4.len]) λj v z=>by
   rw[List.getElem?_replicate]at z
   split at z<;>cases z
  refine af8 (X:=held X e) (i:=i) (v:=.ref e) I4w nd hi (.inl hn) rfl (λs5 I5=>?_) (.inr hn)
  refine wpAny_mono (hs e pins s5 _ H' _ I5 q2) (λf s6 z=>?_) λ_ _ z=>False.elim z
  cases f with
  | next=>obtain⟨_,_,_,y⟩:=z;exact y.elim
  | brk=>obtain⟨_,_,_,y⟩:=z;exact False.elim y
  | cont=>obtain⟨_,_,_,y⟩:=z;exact False.elim y
  | ret u =>
   obtain⟨v,σ6,H6,I6,r6,y⟩:=z
   have I6':=avj hh I6
   obtain⟨m,hns,_⟩:=I6'.loc
   refine wpAny_nameGoes hn hns (by rw[I6'.ok.kind];rfl) λh7 m7 hn7 hs7=>?_
   exact⟨v,_,H6,avh I6' hn7 hs7,r6,y⟩
 ·cases f with
  | next=>exact wpAny_execs_nil (aa1 q)
  | brk=>exact aa1 q
  | cont=>exact aa1 q
  | ret u=>exact aa1 q
section
variable{P:Program}{w:World}{K:PySem.W.Frag}{mg:Str->Option Value}{base:Heap}
theorem okX{x qual:Str}{st:Stmt}{f:Addr}{fd:FuncData}{N ps:List Str}{k:Nat}{sp:Sp}(F:Fun K x qual st f fd)(S:cu N ps (bj st))(len:∀vs H Q E,sp vs H Q E->vs.length=ps.length)
  (hbody:∀(cdv:Value) (A:Around) (outer:List Env) (s:Shared) (H:Hp) (vs:List V) (Q:VK) (E:XK),fj k (A.deeper (envOfC qual (bj st) s.heap.objs.size f cdv))->sp vs H Q E ->
   ∃t,PSs (jo (XC P w) P w K mg base N qual (bj st) f cdv A outer s H E) (uh st) t/\t {nx:=λ_ H'=>Q .non H',rt:=Q} (start N vs) H):jm P w K mg base (XC P w) (k+1) f fd ps sp:=by
 obtain⟨oc,od,kV,doc,pm,an,cdv,ct,osl,rfl,lk,hcd⟩:=F.ex
 exact amd lk hcd S len λA outer s H vs Q E hr hsp=>hbody cdv A outer s H vs Q E hr hsp
end
structure CM(K:PySem.W.Frag)(C:Addr)(m:Str)(f:Addr):Prop where
 sp:PySem.W.specialIn K (.ref C) "__getattribute__" = some (some (.builtin "type.__getattribute__"))
 rd:PySem.W.readsIn K C (.type "type")=true
 fi:PySem.W.findCls K (.ref C) (.type "type") m=some (.val (.ref f))
 kp:PySem.W.keepIn K (.ref f)=true
section
variable{X:Cx}{CX:CXT}{k:Nat}{f C:Addr}{fd:FuncData}{ps:List Str}{sp:Sp}{E:XK}{x m:Str}{p pos apos:Pos}{e func:Expr}{es:List Expr}{t:TA}{tf:TE}
theorem azv{pl:Sem Bool}(hg:Gl X x)(hm:X.mg x=some (.ref C))(c:CM X.K C m f)(F:jm X.prog X.w X.K X.mg X.base CX k f fd ps sp)(hr:fj k X.A)(hb:Binds X.K fd ps [])(hx:Passes CX X E)(ha:PA X (e::es) t)
  (hdb:(x==("__debug__" : Str))=false:=by decide) (hst:starEach (e::es) X.env=(false,eval e X.env)::starEach es X.env:=by rfl) (hpl:(backTo pos (starEach es X.env)).any (·.1)=false:=by rfl)
  (ht:eval (.Call (.Attribute (.Name x p) m apos) (e::es) [] pos) X.env=(do
   let ov <-eval (.Name x p) X.env
   standAt apos.atName
   let (g,first) <-holding [ov] (getMethod ov m pl)
   callWith pos g first (backTo pos (starEach (e::es) X.env)) (backToKw pos (keywordEach [] X.env))):=by rfl) :
  PE X (.Call (.Attribute (.Name x p) m apos) (e::es) [] pos) (zx sp [] E t):=by
 intro pins s σ H Q I h
 refine PySem.W.methodCall_KW (pl:=pl) (vy I hg hm ?_ hdb) ht
 refine PySem.W.method_cls I.kIn c.sp (PySem.W.cls_value I.kIn c.rd c.fi rfl ?_)
 refine PySem.W.callWith_K (first:=[]) (h₀:=X.base) I.ok.mod.kin c.kp (thn (ha pos pins _ σ H _ (I.tok _) h) λus s1 ⟨vs,H1,I1,r,q⟩=>⟨I1.kIn,?_⟩) hst hpl
 exact acn (us:=us) F hr hb .nil hx I1 r q
end
theorem asa:∀{xs:List V}{us:List Value},xs.length=us.length->(∀(j:Nat) (a:V) (b:Value),xs[j]? = some a->us[j]? = some b->RelV a b)->Vals xs us
 | [],[],_,_=>.nil
 | [],_::_,h,_=>by cases h
 | _::_,[],h,_=>by cases h
 | a::xs,b::us,h,k=>.cons (k 0 a b rfl rfl) (asa (by simpa using h) λj x y hx hy=>k (j+1) x y (by simpa using hx) (by simpa using hy))
section
variable{X:Cx}
theorem ags:vh X (.type "range") (λxs H Q=>∃n:Int,xs=[.int n]/\∀p,H p=none->Q (.ref p) (upd H p (.rng 0 n))):=by
 intro pins s σ H xs us Q I r h
 obtain⟨n,rfl,q⟩:=h
 cases r with
 | cons r rr =>
  cases rr
  obtain⟨t,rfl⟩:=r
  refine call_range_1 ⟨.ref s.heap.objs.size,_,?_,rfl,q _ (I.hok.fresh (Nat.le_refl _))⟩
  exact I.laid (λb o e=>Heap.get?_push_of_some _ e) (Nat.le_refl _) ⟨_,_,_,Heap.get?_push_size _ rfl⟩
theorem atm(hc:X.calm=true):vh X (.type "list") (λxs H Q=>∃p n,xs=[.ref p]/\H p=some (.rng 0 n)/\0<=n/\n<=1000000/\∀l,H l=none->Q (.ref l) (upd H l (.lst ((List.range n.toNat).map λ(i:Nat)=>V.int (i:Int))))):=by
 intro pins s σ H xs us Q I r h
 obtain⟨p,n,rfl,hp,h0,h1,q⟩:=h
 cases r with
 | cons r rr =>
  cases rr
  cases r
  obtain⟨t,u,v,e⟩:=(show gq X.prog X.w H s.heap p (.rng 0 n) from I.hok p _ hp)
  have hz:Builtin.Range.rangeSize 0 n 1=(n.toNat:Nat):=by rw[rangeSize_one];split<;>omega
  refine call_list_range (n:=n.toNat) (I.ok.hd hc) e (small_one (by omega) (by omega) (by omega) (by omega)) hz (by omega) λh' tk acc c kp hl it=>?_
  refine⟨.ref s.heap.objs.size,_,?_,rfl,q _ (I.hok.fresh (Nat.le_refl _))⟩
  refine I.laid kp (Nat.le_refl _) ⟨?_,acc.toList,c,?_,by rw[Array.toArray_toList];exact hl⟩
  ·rw[List.length_map,List.length_range,sizeLine_eq];omega
  ·refine asa (by rw[List.length_map,List.length_range,Array.length_toList,it.1]) λj a b ha hb=>?_
   rw[List.getElem?_map]at ha
   obtain⟨i,hi,rfl⟩:=Option.map_eq_some_iff.mp ha
   obtain⟨hj,rfl⟩:=List.getElem?_eq_some_iff.mp hi
   obtain⟨t',rfl⟩:=it.2 j b (by simpa using hb)
   refine⟨t',?_⟩
   rw[List.getElem_range]
   congr 1
   omega
end
theorem a3j:isSubtype (.type "range_iterator") (.type "reversed")=pure false:=by rw[isSubtype_type];kernel_rfl
section
variable{prog:Program}{w:World}{A:Around}{E:Value->Shared->Prop}{s:Shared}
theorem ada{i:Int}(h:-(2 ^ 62)<=i)(h':i<2 ^ 62):Builtin.Range.rangeFitsLong i=true:=by
 unfold Builtin.Range.rangeFitsLong
 simp only[Bool.and_eq_true,decide_eq_true_eq]
 omega
theorem a01{r:Addr}{n:Int}{t u v:Tok}{Q:Value->Shared->Prop}(hr:IsRange s.heap r 0 n 1 t u v)(h0:0<=n)(h1:n<=1000000)
  (h:Q (.ref s.heap.objs.size) {s with heap:=s.heap.push {cls:=.type "range_iterator",data:=.fields #[rawInt (n-1),rawInt n,rawInt (-1)]}}):wpAny (model prog w) A (call (.builtin "range.__reversed__") [.ref r]) Q E s:=by
 have hz:Builtin.Range.rangeSize 0 n 1=n:=by rw[rangeSize_one];split<;>omega
 refine wpAny_call_entry F.slot_range_reversed ⟨_,hr,rfl⟩ F.entry_range_reversed ?_ (F.args_range_reversed_1 _)
 unfold Builtin.«range.__reversed__»
 refine wpAny_bind (wpAny_of_eq (a:=Value.ref r) rfl ?_)
 unfold Builtin.Range.rangeFields
 refine wpAny_bind (wpAny_bind (wpAny_field hr rfl (x:=.int 0 t) rfl (wpAny_bind (wpAny_pure (wpAny_bind (wpAny_field hr rfl (x:=.int n u) rfl (wpAny_bind (wpAny_pure (wpAny_bind (wpAny_field hr rfl (x:=.int 1 v) rfl (wpAny_bind (wpAny_pure (wpAny_pure ?_)))))))))))))
 have hs:(Builtin.Range.rangeFitsLong 0&&Builtin.Range.rangeFitsLong n&&Builtin.Range.rangeFitsLong 1&&Builtin.Range.rangeFitsLong (-1)&&Builtin.Range.rangeFitsLong (0-1)&&Builtin.Range.rangeFitsLong n)=true:=by
  rw[ada (i:=0) (by decide) (by decide),ada (i:=n) (by omega) (by omega),ada (i:=1) (by decide) (by decide),ada (i:=-1) (by decide) (by decide),ada (i:=0-1) (by decide) (by decide)]
  rfl
 simp only[hz,hs,Bool.not_true,Bool.false_eq_true,if_false,if_true]
 unfold newFields
 refine wpAny_bind (wpAny_newObj_type (wpAny_pure ?_) ?_)
 ·have e:0+(n-1)*1=n-1:=by omega
  rw[e]
  exact⟨_,rfl,h⟩
 ·show 3<=sizeLine+2
  rw[sizeLine_eq]
  omega
theorem atr{r:Addr}{n:Int}{t u v:Tok}{Q:Value->Shared->Prop}(hr:IsRange s.heap r 0 n 1 t u v)(h0:0<=n)(h1:n<=1000000)
  (h:Q (.ref s.heap.objs.size) {s with heap:=s.heap.push {cls:=.type "range_iterator",data:=.fields #[rawInt (n-1),rawInt n,rawInt (-1)]}}) :
  codeAny (model prog w) A (.call (.builtin "reversed.__new__") ⟨[.type "reversed",.ref r],[]⟩) (wants Q E) s:=by
 refine codeAny_of_tree ?_
 show wpAny _ A.in1 (do checkBuiltinCall "reversed.__new__" ⟨[.type "reversed",.ref r],[]⟩;again (.builtin "reversed.__new__" ⟨[.type "reversed",.ref r],[]⟩)) _ _ s
 refine wpAny_bind (wpAny_of_eq (F.newCall_reversed_1 _) (wpAny_pure ⟨plainId_quiet F.plain_reversed_new _,codeAny_builtin F.entry_reversed_new ?_⟩))
 rw[Around.under_plainId F.plain_reversed_new _]
 unfold Builtin.«reversed.__new__»
 have tI:s.TypeIs (.ref r) "range" := ⟨_,hr,rfl⟩
 refine wpAny_bind (wpAny_of_eq (newClass_reversed _) (wpAny_bind (wpAny_of_eq (a:=()) (by first | rfl | kernel_rfl) (wpAny_bind (wpAny_of_eq (a:=()) (by first | rfl | kernel_rfl) ?_)))))
 refine wpAny_bind (wpAny_specialOf tI F.slot_range_reversed.lookup (wpAny_bind (wpAny_of_eq (F.slot_range_reversed.bind _) ?_)))
 show wpAny _ _ (if (Value.builtin "range.__reversed__" == Value.none)=true then _ else _) _ _ _
 rw[if_neg (show ¬((Value.builtin "range.__reversed__" == Value.none)=true) from Bool.false_ne_true)]
 refine wpAny_bind (wpAny_rule (wpAny_bind (m:=runValue (.call (.builtin "range.__reversed__") ⟨[.ref r],[]⟩)) (show wpAny _ _ (call (.builtin "range.__reversed__") [.ref r]) _ _ _ from a01 hr h0 h1 ?_)))
 first
 | exact wpAny_pure h
 | exact wpAny_bind (wpAny_pure (wpAny_pure h))
theorem atn{r:Addr}{n:Int}{t u v:Tok}{Q:Value->Shared->Prop}(hr:IsRange s.heap r 0 n 1 t u v)(h0:0<=n)(h1:n<=1000000)
  (h:Q (.ref s.heap.objs.size) {s with heap:=s.heap.push {cls:=.type "range_iterator",data:=.fields #[rawInt (n-1),rawInt n,rawInt (-1)]}}):wpAny (model prog w) A (call (.type "reversed") [.ref r]) Q E s:=by
 refine callType_other (U := "range_iterator") (Q₁:=λobj s1=>obj=.ref s.heap.objs.size/\s1={s with heap:=s.heap.push {cls:=.type "range_iterator",data:=.fields #[rawInt (n-1),rawInt n,rawInt (-1)]}}) (by decide +kernel) F.create_reversed ⟨_,_,F.mro_reversed⟩ F.made_reversed a3j (F.typeCall_reversed_1 _) (atr hr h0 h1 ⟨rfl,rfl⟩) ?_
 rintro obj s1 ⟨rfl,rfl⟩
 exact⟨⟨_,Heap.get?_push_size _ rfl,rfl⟩,h⟩
end
def ava(ta:TA):TI:=λσ H R=>ta σ H λvs H1=>∃p n,vs=[.ref p]/\H1 p=some (.rng 0 n)/\0<=n/\n<=1000000/\R (Itc (n-1) (-1) n.toNat) H1
theorem an9{X:Cx}{tg e:Expr}{ta:TA}{p pos:Pos}(hg:Gl X "reversed")(hm:X.mg "reversed" = none)(ha:PA X [e] ta)(hs:starEach [e] X.env=[(false,eval e X.env)]:=by rfl):PI X tg (.Call (.Name "reversed" p) [e] [] pos) (ava ta):=by
 intro pins s σ H R I h
 refine Call_ (ab8 I hg hm ati (PyProof.Rows.callWith_type1 (thn (ha pos pins s σ H _ I h) λus s1 ⟨vs,H1,I1,r1,q1⟩=>?_) hs rfl))
 obtain⟨a,n,e,hp,h0,h1,q⟩:=q1
 subst e
 cases r1 with
 | cons r rr =>
  cases rr
  cases r
  obtain⟨t,u,v,e⟩:=(show gq X.prog X.w H1 s1.heap a (.rng 0 n) from I1.hok a _ hp)
  have e1:n-1+((0:Nat):Int)*(-1)=n-1:=by omega
  have e2:(n.toNat:Int)-((0:Nat):Int)=n:=by omega
  have z:IsRangeIter (s1.heap.push {cls:=.type "range_iterator",data:=.fields #[rawInt (n-1),rawInt n,rawInt (-1)]}) s1.heap.objs.size (n-1+((0:Nat):Int)*(-1)) ((n.toNat:Int)-((0:Nat):Int)) (-1):=by
   rw[e1,e2]
   exact Heap.get?_push_size _ rfl
  refine atn e h0 h1 (wpAny_pyIter_rangeiter z ?_)
  exact adw (tk:=s1.toks) I1 _ (a4k _ (n-1) (-1) n.toNat) z q
section
variable{X:Cx}
def a0w(K:PySem.W.Frag):List V->Hp->VK->Prop:=λvs H Q=>∃(a:Addr) (ns:List Int),vs=[V.ref a]/\SqL K H a (ns.map V.int) /\
 ∀(ns':List Int) (p:Addr),ns'.Perm ns->ns'.Pairwise (·<=·)->H p=none->Q (.ref p) (upd H p (.lst (ns'.map V.int)))
theorem atx:vh X (.builtin "sorted") (a0w X.K):=by
 intro pins s σ H vs us Q I r h
 obtain⟨a,ns,rfl,hs,q⟩:=h
 obtain⟨its,rv,hl,hz⟩:=I.list hs
 rw[Vals.aij r]
 have hi:=rv.ints
 have hz':its.length<=sizeLine:=by rw[<-rv.length];exact hz
 refine PyProof.Rows.sorted_intsAny hl.isList hi hz' λout ns' h1 h2 h3=>?_
 obtain⟨ep,he⟩:=PyProof.Rows.sortedAll_at s.heap its out
 have hn:(ns'.map V.int).length<=sizeLine:=by rw[List.length_map,h2.length_eq,<-hi.length];exact hz'
 exact⟨.ref _,upd H (s.heap.objs.size+1) (.lst (ns'.map V.int)),I.laid (t':=s.toks) (λ_ _=>PyProof.Rows.sortedAll_old) (Nat.le_succ _) ⟨hn,out.toList,ep,asb h1,he⟩,rfl,q ns' _ h2 h3 (I.hok.fresh (Nat.le_succ _))⟩
end
section
variable{prog:Program}{w:World}{A:Around}{R:Result->Shared->Prop}{I S:Addr}{fp wr:List Addr}{n:Nat}{P:Nat->Value->Prop}{St:Nat->Heap->Prop}{Kp:Heap->Prop}{bt:Nat->Nat->Bool}
def agi(prog:Program)(w:World)(A:Around)(P:Nat->Value->Prop)(Kp:Heap->Prop)(bt:Nat->Nat->Bool):Prop :=
 ∀i j vi vj (s:Shared) (Q:Value->Shared->Prop) (E:Value->Shared->Prop),P i vi->P j vj->Kp s.heap->Q (.bool (bt i j)) s->wpAny (model prog w) A (richCompare .Lt vi vj) Q E s
theorem aww(W:Walks prog w A.in1 I fp wr n P St)(cmp:agi prog w A.in1 P Kp bt)(kk:∀h h',Kp h->(∀b o,b∉wr->b≠S->h.get? b=some o->h'.get? b=some o)->Kp h')(nS:S∉fp):
  ∀(k j:Nat) (s:Shared) (vb:Value) (c:Nat),n-(j+1)=k->j+1<=n->St (j+1) s.heap->P (argBest bt j) vb->Kp s.heap ->
  s.heap.get? S=some {cls:=.type "list",dict:=none,data:=.seq #[vb,vb] c,slots:=#[]} ->
  (∀v h' tk,P (argBest bt (n-1)) v->(∀b o,b∉wr->b≠S->s.heap.get? b=some o->h'.get? b=some o)->R (.ok (.ret v)) {s with heap:=h',toks:=tk}) ->
  codeAny (model prog w) A (.builtin "min.loop" ⟨[.ref I,.none,.ref S],[]⟩) R s:=by
 have nW:S∉wr:=λz=>nS (W.sub _ z)
 have nm:(toString "min" ++ toString ".loop" : String) = "min.loop" := by decide
 intro k
 induction k with
 | zero =>
  intro j s vb c hk hj hst hb hK hS hR
  have e:j+1=n:=by omega
  refine codeAny_builtin F.entry_min_loop ?_
  rw[Around.under_plainId F.plain_min_loop _]
  show wpAny _ A.in1 (seqItems? (.ref S) >>= _) _ _ s
  refine wpAny_bind (wpAny_seqItems hS rfl ?_)
  show wpAny _ A.in1 (tryCatch (pyNext (.ref I)) _ >>= _) _ _ s
  refine wpAny_bind (wpAny_tryCatch (W.done s _ _ (e▸hst) λh' tk kp=>?_))
  have hS':=kp S _ nW hS
  show wpAny _ A.in1 (updateSeq S (λ_=>#[]) >>= _) _ _ _
  refine wpAny_bind ?_
  refine wpAny_updateSeq hS' rfl (wpAny_bind (wpAny_letGo (wpAny_pure ?_)))
  exact hR vb _ tk (by rw[<-e];exact hb) λb o b1 b2 q=>(Heap.get?_update_other _ _ (Ne.symm b2)).trans (kp b o b1 q)
 | succ k ih =>
  intro j s vb c hk hj hst hb hK hS hR
  have lt:j+1<n:=by omega
  refine codeAny_builtin F.entry_min_loop ?_
  rw[Around.under_plainId F.plain_min_loop _]
  show wpAny _ A.in1 (seqItems? (.ref S) >>= _) _ _ s
  refine wpAny_bind (wpAny_seqItems hS rfl ?_)
  show wpAny _ A.in1 (tryCatch (pyNext (.ref I)) _ >>= _) _ _ s
  refine wpAny_bind (wpAny_tryCatch (W.item (j+1) s _ _ lt hst λv h' tk hP st' kp=>?_))
  have hS':=kp S _ nW hS
  have hK':Kp h':=kk _ _ hK λb o b1 _ q=>kp b o b1 q
  show wpAny _ A.in1 (tryCatch (holding [v,v] (richCompare .Lt v vb >>= _)) _ >>= _) _ _ _
  refine wpAny_bind (wpAny_tryCatch (wpAny_holding (wpAny_bind (cmp (j+1) (argBest bt j) v vb _ _ _ hP hb hK' ?_))))
  refine wpAny_bind (wpAny_holding (wpAny_truthy_bool (wpAny_bind (wpAny_letGo (wpAny_pure ?_)))))
  cases hc:bt (j+1) (argBest bt j)with
  | true =>
   simp only[if_true]
   refine wpAny_bind ?_
   refine wpAny_updateSeq hS' rfl (wpAny_bind (wpAny_letGo ?_))
   rw[nm]
   have k2:∀b o,b≠S->h'.get? b=some o->(h'.update S (Obj.mapSeq λ_=>#[v,v])).get? b=some o:=λb o b2 q=>(Heap.get?_update_other _ _ (Ne.symm b2)).trans q
   refine wpAny_pure ⟨plainId_quiet F.plain_min_loop _,ih (j+1) _ v _ (by omega) lt (W.frame _ _ _ st' λb bf o q=>k2 b o (λz=>nS (z▸bf)) q) (by simp only[argBest,hc,if_true];exact hP) (kk _ _ hK' λb o _ b2 q=>k2 b o b2 q) (Heap.get?_update_self _ hS' rfl)
    λv' h2 tk2 hP' kp2=>?_⟩
   exact hR v' h2 tk2 hP' λb o b1 b2 q=>kp2 b o b1 b2 (k2 b o b2 (kp b o b1 q))
  | false =>
   simp only[Bool.false_eq_true,if_false]
   refine wpAny_bind (wpAny_letGo ?_)
   rw[nm]
   refine wpAny_pure ⟨plainId_quiet F.plain_min_loop _,ih (j+1) _ vb c (by omega) lt st' (by simp only[argBest,hc,Bool.false_eq_true,if_false];exact hb) hK' hS' λv' h2 tk2 hP' kp2=>?_⟩
   exact hR v' h2 tk2 hP' λb o b1 b2 q=>kp2 b o b1 b2 (kp b o b1 q)
theorem awv(W:Walks prog w A.in1 I fp wr n P St)(cmp:agi prog w A.in1 P Kp bt)(kk:∀h h',Kp h->(∀b o,b∉wr->b≠S->h.get? b=some o->h'.get? b=some o)->Kp h')(nS:S∉fp)(hn:0<n){s:Shared}{c:Nat}(hst:St 0 s.heap)(hK:Kp s.heap)
  (hS:s.heap.get? S=some {cls:=.type "list",dict:=none,data:=.seq #[] c,slots:=#[]})
  (hR:∀v h' tk,P (argBest bt (n-1)) v->(∀b o,b∉wr->b≠S->s.heap.get? b=some o->h'.get? b=some o)->R (.ok (.ret v)) {s with heap:=h',toks:=tk}) :
  codeAny (model prog w) A (.builtin "min.loop" ⟨[.ref I,.none,.ref S],[]⟩) R s:=by
 have nW:S∉wr:=λz=>nS (W.sub _ z)
 have nm:(toString "min" ++ toString ".loop" : String) = "min.loop" := by decide
 refine codeAny_builtin F.entry_min_loop ?_
 rw[Around.under_plainId F.plain_min_loop _]
 show wpAny _ A.in1 (seqItems? (.ref S) >>= _) _ _ s
 refine wpAny_bind (wpAny_seqItems hS rfl ?_)
 show wpAny _ A.in1 (tryCatch (pyNext (.ref I)) _ >>= _) _ _ s
 refine wpAny_bind (wpAny_tryCatch (W.item 0 s _ _ hn hst λv h' tk hP st' kp=>?_))
 have hS':=kp S _ nW hS
 have k2:∀b o,b≠S->h'.get? b=some o->(h'.update S (Obj.mapSeq λ_=>#[v,v])).get? b=some o:=λb o b2 q=>(Heap.get?_update_other _ _ (Ne.symm b2)).trans q
 have hK':Kp h':=kk _ _ hK λb o b1 _ q=>kp b o b1 q
 show wpAny _ A.in1 (updateSeq S (λ_=>#[v,v]) >>= _) _ _ _
 refine wpAny_bind ?_
 refine wpAny_updateSeq hS' rfl ?_
 rw[nm]
 refine wpAny_pure ⟨plainId_quiet F.plain_min_loop _,aww W cmp kk nS _ 0 _ v _ rfl hn (W.frame _ _ _ st' λb bf o q=>k2 b o (λz=>nS (z▸bf)) q) hP (kk _ _ hK' λb o _ b2 q=>k2 b o b2 q) (Heap.get?_update_self _ hS' rfl) λv' h2 tk2 hP' kp2=>?_⟩
 exact hR v' h2 tk2 hP' λb o b1 b2 q=>kp2 b o b1 b2 (k2 b o b2 (kp b o b1 q))
end
section
variable{prog:Program}{w:World}{A:Around}{E:Value->Shared->Prop}{s:Shared}
theorem awx{x:Value}{Q:Value->Shared->Prop}
  (h:wpAny (model prog w) A.in1 (pyIter x) (λit s2=>∃I fp wr n P St bt,∃Kp:Heap->Prop,it=.ref I/\Walks prog w A.in1 I fp wr n P St/\St 0 s2.heap/\(∀b∈fp,b<s2.heap.objs.size)/\0<n/\agi prog w A.in1 P Kp bt/\Kp s2.heap /\
   (∀h h',Kp h->(∀b o,b∉wr->b≠s2.heap.objs.size->h.get? b=some o->h'.get? b=some o)->Kp h') /\
   ∀v h' tk,P (argBest bt (n-1)) v->(∀b o,b∉wr->s2.heap.get? b=some o->h'.get? b=some o)->Q v {s2 with heap:=h',toks:=tk}) E s) :
  wpAny (model prog w) A (call (.builtin "min") [x]) Q E s:=by
 have nm:(toString "min" ++ toString ".loop" : String) = "min.loop" := by decide
 refine call_function_tree F.kind_min F.plain_min F.entry_min (F.args_min1 _) ?_
 show wpAny _ A.in1 (Builtin.Builtins.bindParams "min" ["key", "default"] 0 ⟨[],[]⟩ >>= _) _ _ s
 refine wpAny_bind (wpAny_of_eq (show Builtin.Builtins.bindParams "min" ["key", "default"] 0 ⟨[],[]⟩=pure [none,none]from rfl) (wpAny_bind (wpAny_pure ?_)))
 refine wpAny_bind (wpAny_mono h (λit s2 z=>?_) λ_ _ e=>e)
 obtain⟨I,fp,wr,n,P,St,bt,Kp,rfl,W,hst,hfp,hn,cmp,hK,kk,hQ⟩:=z
 refine wpAny_bind (wpAny_newObj_type ?_)
 have nS:s2.heap.objs.size∉fp:=λm=>Nat.lt_irrefl _ (hfp _ m)
 have k1:∀b o,s2.heap.get? b=some o->(s2.heap.push {cls:=Value.type "list",dict:=none,data:=Data.seq #[]}).get? b=some o:=λb o e=>Heap.get?_push_of_some _ e
 rw[nm]
 refine wpAny_pure ⟨plainId_quiet F.plain_min_loop _,awv W cmp kk nS hn (W.frame _ _ _ hst λb _ o e=>k1 b o e) (kk _ _ hK λb o _ _ e=>k1 b o e) (Heap.get?_push_size _ rfl) λv h' tk hP kp=>?_⟩
 exact hQ v h' tk hP λb o bw e=>kp b o bw (Nat.ne_of_lt (Heap.lt_size e)) (k1 b o e)
end
section
variable{X:Cx}
def a0t(K:PySem.W.Frag):List V->Hp->VK->Prop:=λvs H Q=>∃(a:Addr) (ps:List Addr) (ks:List (List Int)),vs=[V.ref a]/\SqL K H a (ps.map V.ref)/\ps.length=ks.length/\0<ps.length /\
 (∀(i:Nat) (p:Addr) (k:List Int),ps[i]? = some p->ks[i]? = some k->SqT K H p (k.map V.int)) /\
 ∀p,ps[argBest (λi j=>HT.lexLt (ks.getD i []) (ks.getD j [])) (ps.length-1)]? = some p->Q (.ref p) H
theorem atw(hc:X.calm=true)(hu:X.A.units+1<cLine):vh X (.builtin "min") (a0t X.K):=by
 intro pins s σ H vs us Q I r h
 obtain⟨a,ps,ks,rfl,hs,hl,hn,ht,q⟩:=h
 obtain⟨its,rv,p0,hz⟩:=I.list hs
 rw[Vals.aij r]
 have hlen:ps.length=its.length:=by rw[<-rv.length,List.length_map]
 have at_:∀(i:Nat) (v:Value),its[i]? = some v->∃p,ps[i]? = some p/\v=.ref p:=λi v e=>by
  have hi:i<ps.length:=by rw[hlen];exact(List.getElem?_eq_some_iff.mp e).1
  have e1:(ps.map V.ref)[i]? = some (.ref ps[i]):=by rw[List.getElem?_map,List.getElem?_eq_getElem hi];rfl
  obtain⟨u,hu1,ru⟩:=rv.get e1
  rw[e]at hu1
  cases hu1
  exact⟨_,List.getElem?_eq_getElem hi,ru⟩
 have lta:a<s.heap.objs.size:=by obtain⟨o,n,e,_⟩:=p0;exact Heap.lt_size e
 refine awx (wpAny_pyIter_list p0.isList ?_)
 refine⟨s.heap.objs.size,[s.heap.objs.size,a],[s.heap.objs.size],its.toArray.size,(λi v=>its.toArray[i]? = some v),_,(λi j=>HT.lexLt (ks.getD i []) (ks.getD j [])),(λh=>∀b o,s.heap.get? b=some o->h.get? b=some o),rfl,
  Walks.list (A:=X.A.in1) (I.ok.hd hc) _ a (Nat.ne_of_lt lta) its.toArray,⟨⟨_,Heap.get?_push_size _ rfl,rfl,rfl⟩,p0.isList.push _⟩,λb hb=>?_,?_,?_,λb o e=>Heap.get?_push_of_some _ e,λh h' k1 k2 b o e=>?_,λv h' tk hP kp=>?_⟩
 ·show b<(s.heap.push _).objs.size
  rw[Heap.size_push]
  simp only[List.mem_cons,List.not_mem_nil,or_false]at hb
  rcases hb with rfl | rfl
  ·exact Nat.lt_succ_self _
  ·exact Nat.lt_succ_of_lt lta
 ·rw[List.size_toArray];omega
 ·intro i j vi vj s2 Q2 E2 hi hj hk h
  obtain⟨pi,epi,rfl⟩:=at_ i vi (by simpa using hi)
  obtain⟨pj,epj,rfl⟩:=at_ j vj (by simpa using hj)
  have li:i<ks.length:=by rw[<-hl];exact(List.getElem?_eq_some_iff.mp epi).1
  have lj:j<ks.length:=by rw[<-hl];exact(List.getElem?_eq_some_iff.mp epj).1
  obtain⟨i1,r1,⟨o1,q1,c1⟩,_⟩:=I.tuple (ht i pi _ epi (List.getElem?_eq_getElem li))
  obtain⟨i2,r2,⟨o2,q2,c2⟩,_⟩:=I.tuple (ht j pj _ epj (List.getElem?_eq_getElem lj))
  have e1:ks.getD i []=ks[i]:=by simp[List.getD,li]
  have e2:ks.getD j []=ks[j]:=by simp[List.getD,lj]
  have h:Q2 (.bool (HT.lexLt (ks.getD i []) (ks.getD j []))) s2:=h
  rw[e1,e2]at h
  exact HT.awq (s:=s2) ⟨o1,hk _ _ q1,c1⟩ ⟨o2,hk _ _ q2,c2⟩ (by simpa using r1.ints) (by simpa using r2.ints) hu h
 ·refine k2 b o (λz=>?_) (λz=>?_) (k1 b o e)
  ·simp only[List.mem_cons,List.not_mem_nil,or_false]at z
   exact absurd (z▸Heap.lt_size e) (Nat.lt_irrefl _)
  ·have lt:=Heap.lt_size e
   rw[z]at lt
   rw[Heap.size_push]at lt
   exact absurd lt (Nat.not_lt.mpr (Nat.le_succ _))
 ·rw[List.size_toArray,List.getElem?_toArray,<-hlen]at hP
  obtain⟨p,ep,rfl⟩:=at_ _ v hP
  exact⟨.ref p,H,I.kept λb o e=>kp b o (λz=>by simp only[List.mem_cons,List.not_mem_nil,or_false]at z;exact absurd (z▸Heap.lt_size e) (Nat.lt_irrefl _)) (Heap.get?_push_of_some _ e),rfl,q p ep⟩
end
def TJ:=Str->L2.St->Hp->VK->Prop
def PJ(X:Cx)(es:List Expr)(t:TJ):Prop:=∀(pins:List (Addr×Obj)) (s:Shared) (σ:L2.St) (H:Hp) (out:Str) (Q:VK),Inv X pins σ H s->t out σ H Q->wpAny (model X.prog X.w) X.A (joinParts out (evalEach es X.env)) (EP X pins σ Q) X.xe s
def avt:TJ:=λout _ H Q=>out.length<=sizeLine/\Q (.str out) H
def avs(te:TE)(t:TJ):TJ:=λout σ H Q=>te σ H λv H1=>∃y:Str,v=.str y/\(out++y).length<=sizeLine/\t (out++y) σ H1 Q
section
variable{X:Cx}{e e1 e2:Expr}{es:List Expr}{te:TE}{t:TJ}{pos:Pos}
theorem aod:PJ X [] avt:=by
 intro pins s σ H out Q I h
 exact joinParts_nil ⟨.str out,H,I.tok _,⟨_,rfl⟩,h.2⟩ h.1
theorem aau(he:PE X e te)(ht:PJ X es t):PJ X (e::es) (avs te t):=by
 intro pins s σ H out Q I h
 refine joinParts_cons (thn (he pins s σ H _ I h) λv s1 ⟨x,H1,I1,r1,y,ex,hz,q⟩=>?_)
 subst ex
 obtain⟨tk,rfl⟩:=r1
 exact⟨hz,ht pins s1 σ H1 _ Q I1 q⟩
def a3q(te:TE):TE:=λσ H Q=>te σ H λv H1=>∃i:Int,v=.int i/\i.natAbs.log2<1920/\Q (.str (toString i)) H1
theorem aia(he:PE X e te):PE X (.FormattedValue e (-1) none pos) (a3q te):=by
 intro pins s σ H Q I h
 refine FormattedValue_plain (thn (he pins s σ H _ I h) λv s1 ⟨x,H1,I1,r1,i,ex,hz,q⟩=>?_)
 subst ex
 obtain⟨tk,rfl⟩:=r1
 exact formatField_int_small hz ⟨.str _,H1,I1.tok _,⟨_,rfl⟩,q⟩
theorem an5(h:PJ X (e1::e2::es) t):PE X (.JoinedStr (e1::e2::es) pos) (t Str.empty):=by
 intro pins s σ H Q I hq
 exact JoinedStr_many (h pins s σ H _ Q I hq)
end
structure j9(k:Nat)(A:Around):Prop where
 dp:A.depth+3*k+5<recursionLimit
 un:A.units+16*k+200<cLine
theorem j9.of{k:Nat}{A:Around}(r:fj k A):j9 k A:=⟨r.dp,r.un⟩
theorem j9.mark{k:Nat}{A:Around}{h:Option Value}(r:j9 k A):j9 k (A.mark h):=⟨r.dp,r.un⟩
theorem j9.deeper{k:Nat}{A:Around}(r:j9 (k+1) A)(env:Env):j9 k (A.deeper env) :=
 ⟨by have:=r.dp;show A.depth+1+3*k+5<_;omega,by have:=r.un;show A.units+3+16*k+200<_;omega⟩
theorem j9.make{k:Nat}{A:Around}(r:j9 (k+1) A)(C:Addr)(us:List Value)(kw:List (Str×Value)):j9 k (A.under (.builtin "type.__call__" ⟨.ref C::us,kw⟩)):=by
 have q:=fj.make (k:=k) (A:={A with handled:=none}) ⟨rfl,r.dp,r.un⟩ C us kw
 exact⟨q.dp,q.un⟩
structure FnU(P:Program)(w:World)(K:PySem.W.Frag)(mg:Str->Option Value)(base:Heap)(CX:CXT)(k:Nat)(f:Addr)(fd:FuncData)(ps:List Str)(sp:Sp):Prop where
 len:∀vs H Q E,sp vs H Q E->vs.length=ps.length
 run:∀(A:Around) (outer:List Env) (s:Shared) (H:Hp) (args:Args) (us:List Value) (vs:List V) (Q:VK) (E:XK),j9 k A->ye P w K mg base A outer s H->BindsTo s fd args (ps.zip us)->Vals vs us->sp vs H Q E ->
  codeAny (model P w) A (.call (.ref f) args) (CR CX outer P w H s Q E) s
section
variable{P:Program}{w:World}{K:PySem.W.Frag}{mg:Str->Option Value}{base:Heap}{CX:CXT}{k:Nat}{f:Addr}{fd:FuncData}{N ps:List Str}{sp:Sp}{qual:Str}{scope:Scope}{cd:Value}{A:Around}{outer:List Env}{s s1:Shared}{H:Hp}{E:XK}{us:List Value}{vs:List V}
theorem FnU.ok(F:FnU P w K mg base CX k f fd ps sp):jm P w K mg base CX k f fd ps sp:=⟨F.len,λA outer s H args us vs Q E hr=>F.run A outer s H args us vs Q E (j9.of hr)⟩
abbrev cxU(CX:CXT)(P:Program)(w:World)(K:PySem.W.Frag)(mg:Str->Option Value)(base:Heap)(N:List Str)(qual:Str)(scope:Scope)(f:Addr)(cd:Value)(A:Around)(outer:List Env)(s:Shared)(H:Hp)(E:XK):Cx :=
 {jo CX P w K mg base N qual scope f cd A outer s H E with calm:=false}
theorem a3g(S:cu N ps scope)(e0:ye P w K mg base A outer s H)(hl:vs.length=ps.length)(r:Vals vs us)
  (x:InCallC s s.heap.objs.size (bindL (envOfC qual scope s.heap.objs.size f cd).kindOf (ps.zip us) λ_=>none) (cellsFrom (s.heap.objs.size+1) scope.names []) (bindC (envOfC qual scope s.heap.objs.size f cd).kindOf (ps.zip us) λ_=>none) s1) :
  Inv (cxU CX P w K mg base N qual scope f cd A outer s H E) [] (start N vs) H s1:=by
 have e1:ye P w K mg base {A with handled:=none} outer s H:=⟨e0.frames,e0.mod,e0.bs,e0.bsz,e0.lr,e0.frf,e0.hok,e0.bare⟩
 have I:=amu (CX:=CX) (E:=E) (A:={A with handled:=none}) S rfl e1 hl r x
 have ok:=I.ok
 exact⟨⟨ok.mod,ok.kind,ok.glob,ok.blt,ok.above,ok.inj,ok.has,ok.cab,(λz=>by cases z),Around.frames_deeper e0.frames,ok.stk,ok.exf,ok.bs,ok.bsz,ok.noex,ok.exfs,ok.lr,ok.frf⟩,I.os,I.bare,I.base,I.loc,I.cell,I.free,I.freeC,I.pin,I.hok,I.len⟩
theorem okU{x:Str}{st:Stmt}(F:Fun K x qual st f fd)(S:cu N ps (bj st))(len:∀vs H Q E,sp vs H Q E->vs.length=ps.length)
  (hbody:∀(cdv:Value) (A:Around) (outer:List Env) (s:Shared) (H:Hp) (vs:List V) (Q:VK) (E:XK),j9 k (A.deeper (envOfC qual (bj st) s.heap.objs.size f cdv))->sp vs H Q E ->
   ∃t,PSs (cxU CX P w K mg base N qual (bj st) f cdv A outer s H E) (uh st) t/\t {nx:=λ_ H'=>Q .non H',rt:=Q} (start N vs) H):FnU P w K mg base CX (k+1) f fd ps sp:=by
 obtain⟨oc,od,kV,doc,pm,an,cdv,ct,osl,rfl,lk,hcd⟩:=F.ex
 refine⟨len,λA outer s H args us vs Q E hr e0 hb r hsp=>?_⟩
 have hl:=len _ _ _ _ hsp
 have KX:K.In s.heap:=e0.mod.kin.keeps λb o e=>(e0.bs b o e).1
 have lim:s.heap.NoLimit:=e0.mod.nolimit.keeps λb o e=>(e0.bs b o e).1
 have hkind:∀y∈ps.zip us,(bj st).names.lookup y.1=some .local\/((bj st).names.lookup y.1=some .cell/\((cellsFrom (s.heap.objs.size+1) (bj st).names []).lookup y.1).isSome=true):=λy hy =>
  (S.par y.1 (List.of_mem_zip hy).1).elim .inl λq=>.inr ⟨q,PySem.W.cellsFrom_some _ _ _ (.inl q)⟩
 refine codeAny_call_function (by have:=hr.dp;omega) (KX _ _ lk) rfl S.co S.gen rfl (PySem.W.codeRec_of KX hcd) (hb _ _ _ _ (wpAny_newFunctionEnv_cells S.kind hkind λenv he s1 x=>?_))
 subst he
 obtain⟨t,ht,hq⟩:=hbody cdv A outer s H vs Q E (hr.deeper _) hsp
 refine⟨lim.keeps x.toInCall.keep,codeAny_func (wpAny_mono (ht [] s1 (start N vs) H _ (a3g S e0 hl r x) hq) (λfl s' hs=>?_) λe s' hs=>hs)⟩
 match fl,hs with
 | .ret u,⟨v,_,H',J,rv,q⟩=>exact⟨v,H',J.os,J.bare,J.base,J.hok,rv,q⟩
 | .next,⟨_,H',J,q⟩=>exact⟨V.non,H',J.os,J.bare,J.base,J.hok,rfl,q⟩
 | .brk,⟨_,_,_,q⟩=>exact False.elim q
 | .cont,⟨_,_,_,q⟩=>exact False.elim q
end
section
variable{X:Cx}{CX:CXT}{k:Nat}{f C:Addr}{fd:FuncData}{ps:List Str}{sp:Sp}{E:XK}{x m:Str}{p pos apos:Pos}{e:Expr}{es:List Expr}{t:TA}{pins:List (Addr×Obj)}{σ:L2.St}{H:Hp}{s:Shared}{Q:VK}{us:List Value}{vs:List V}
theorem a06(F:FnU X.prog X.w X.K X.mg X.base CX k f fd ps sp)(hr:j9 k X.A)(hb:Binds X.K fd ps [])(hx:Passes CX X E)(I:Inv X pins σ H s)(r:Vals vs us)(h:sp vs H Q E):
  wpAny (model X.prog X.w) X.A (call (.ref f) us) (EP X pins σ Q) X.xe s:=by
 have hl:us.length=ps.length:=by rw[<-r.length];exact F.len _ _ _ _ h
 have hb':=hb s us I.kIn (by rw[List.append_nil];exact hl)
 rw[List.append_nil]at hb'
 refine wpAny_call (codeAny_mono (F.run X.A X.stack s H ⟨us,[]⟩ us vs Q E hr I.env0 hb' r h) λr s' hq=>?_)
 match r,hq with
 | .error e,hq=>exact hx pins σ H s e s' I hq
 | .ok (.ret u),hq=>exact I.after hq
 | .ok .next,hq=>exact False.elim hq
 | .ok .brk,hq=>exact False.elim hq
 | .ok .cont,hq=>exact False.elim hq
theorem azw{pl:Sem Bool}(hg:Gl X x)(hm:X.mg x=some (.ref C))(c:CM X.K C m f)(F:FnU X.prog X.w X.K X.mg X.base CX k f fd ps sp)(hr:j9 k X.A)(hb:Binds X.K fd ps [])(hx:Passes CX X E)(ha:PA X (e::es) t)
  (hdb:(x==("__debug__" : Str))=false:=by decide) (hst:starEach (e::es) X.env=(false,eval e X.env)::starEach es X.env:=by rfl) (hpl:(backTo pos (starEach es X.env)).any (·.1)=false:=by rfl)
  (ht:eval (.Call (.Attribute (.Name x p) m apos) (e::es) [] pos) X.env=(do
   let ov <-eval (.Name x p) X.env
   standAt apos.atName
   let (g,first) <-holding [ov] (getMethod ov m pl)
   callWith pos g first (backTo pos (starEach (e::es) X.env)) (backToKw pos (keywordEach [] X.env))):=by rfl) :
  PE X (.Call (.Attribute (.Name x p) m apos) (e::es) [] pos) (zx sp [] E t):=by
 intro pins s σ H Q I h
 refine PySem.W.methodCall_KW (pl:=pl) (vy I hg hm ?_ hdb) ht
 refine PySem.W.method_cls I.kIn c.sp (PySem.W.cls_value I.kIn c.rd c.fi rfl ?_)
 refine PySem.W.callWith_K (first:=[]) (h₀:=X.base) I.ok.mod.kin c.kp (thn (ha pos pins _ σ H _ (I.tok _) h) λus s1 ⟨vs,H1,I1,r,q⟩=>⟨I1.kIn,?_⟩) hst hpl
 have q:sp (vs++[]) H1 Q E:=q
 rw[List.append_nil]at q
 exact a06 (us:=us) F hr hb hx I1 r q
theorem a07(M:XMk X.K C f)(F:FnU X.prog X.w X.K X.mg X.base CX k f fd ps sp)(hr:j9 (k+1) X.A)(hb:Binds X.K fd ps [])(hz:ps.length<=1000)
  (hx:Passes CX X E) (I:Inv X pins σ H s) (r:Vals vs us) (h:∀e,H e=none->sp (.ref e::vs) (upd H e (.ext (my e C))) (λv H2=>v=.non/\Q (.ref e) H2) E) :
  wpAny (model X.prog X.w) X.A (call (.ref C) us) (EP X pins σ Q) X.xe s:=by
 have hq:=h (s.heap.objs.size+1) (I.hok.fresh (Nat.le_succ _))
 have r2:Vals (V.ref (s.heap.objs.size+1)::vs) (Value.ref (s.heap.objs.size+1)::us):=.cons rfl r
 have hl:(Value.ref (s.heap.objs.size+1)::us).length=ps.length:=by rw[<-r2.length];exact F.len _ _ _ _ hq
 have hu:us.length<=sizeLine:=by rw[sizeLine_eq];rw[List.length_cons]at hl;omega
 have I1:Inv X pins σ H {s with heap:=s.heap.push {cls:=.type "tuple",data:=.seq us.toArray}}:=I.kept (t':=s.toks) λb o q=>Heap.get?_push_of_some _ q
 have I2:Inv X pins σ (upd H (s.heap.objs.size+1) (.ext (my (s.heap.objs.size+1) C))) {s with heap:=(s.heap.push {cls:=.type "tuple",data:=.seq us.toArray}).push {cls:=.ref C,data:=.fields #[.ref s.heap.objs.size,.none,.none,.none,.bool false,.none]}}:=by
  refine I1.laid (t':=s.toks) (λb o q=>Heap.get?_push_of_some _ q) (Nat.le_of_eq (Heap.size_push _ _)) (al8 ⟨s.heap.objs.size,?_⟩)
  have z:=Heap.get?_push_size (s.heap.push {cls:=.type "tuple",data:=.seq us.toArray}) (o:={cls:=.ref C,data:=.fields #[.ref s.heap.objs.size,.none,.none,.none,.bool false,.none]}) rfl
  rwa [Heap.size_push]at z
 obtain⟨hh,g,d,t,os⟩:=s
 refine ane I.kIn M.xc M.init M.fn hu (wpAny_call (codeAny_mono (F.run _ X.stack _ _ ⟨Value.ref (hh.objs.size+1)::us,[]⟩ (Value.ref (hh.objs.size+1)::us) _ _ E (hr.make C us []) (I2.env0.make C us [])
  (by have z:=hb _ (Value.ref (hh.objs.size+1)::us) I2.kIn (by rw[List.append_nil];exact hl);rw[List.append_nil]at z;exact z) r2 hq) λr s' hq'=>?_))
 match r,hq' with
 | .error e,hq'=>exact hx pins σ _ _ e s' I2 hq'
 | .ok (.ret u),hq' =>
  obtain⟨v,H',I3,rv,ev,q3⟩:=I2.after hq'
  subst ev
  exact⟨rv,⟨V.ref (hh.objs.size+1),H',I3,rfl,q3⟩⟩
 | .ok .next,hq'=>exact False.elim hq'
 | .ok .brk,hq'=>exact False.elim hq'
 | .ok .cont,hq'=>exact False.elim hq'
theorem a0a(M:XMk X.K C f)(F:FnU X.prog X.w X.K X.mg X.base CX k f fd ps sp)(hr:j9 (k+1) X.A)(hg:Gl X x)(hm:X.mg x=some (.ref C))(hb:Binds X.K fd ps [])(hz:ps.length<=1000)(hx:Passes CX X E)
  (hdb:(x==("__debug__" : Str))=false:=by decide):PE X (.Call (.Name x p) [] [] pos) (wy C sp E jb):=by
 intro pins s σ H Q I h
 refine wpAny_Call_Name_kw (vy I hg hm ?_ hdb)
 exact PySem.W.callWith_K0 I.kIn M.kp (a07 (us:=[]) M F hr hb hz hx I .nil h)
end
theorem aum:entryFor table "proto.unchain" = some Builtin.«proto.unchain»:=entryFor_of_fast (by kernel_rfl)
section
variable{prog:Program}{w:World}{A:Around}{E:Value->Shared->Prop}{s:Shared}{e e0:Addr}{env:Env}
theorem unchain{o0:Obj}{ws:Array Value}{Q:Value->Shared->Prop}(h0:s.heap.get? e0=some o0)(hd:o0.data=.fields ws)(h2:ws[2]? = some .none)(h:Q .none s):
  wpAny (model prog w) A (runValue (.builtin "proto.unchain" ⟨[.ref e,.ref e0,.ref e0,.bool false],[]⟩)) Q E s:=by
 refine wpAny_runValue (codeAny_builtin aum ?_)
 unfold Builtin.«proto.unchain»
 refine wpAny_bind (wpAny_field h0 hd h2 ?_)
 exact wpAny_pure h
theorem a4t{a:Addr}{o:Obj}{vs:Array Value}{i:Nat}{x:Value}{Q:Unit->Shared->Prop}(ho:s.heap.get? a=some o)(hd:o.data=.fields vs)(hi:i<vs.size)(h:Q () {s with heap:=s.heap.update a (Obj.mapFields (·.setIfInBounds i x))}):
  wpAny (model prog w) A (updateField a i x) Q E s:=by
 unfold updateField
 refine wpAny_bind (wpAny_load ho ?_)
 rw[hd]
 dsimp only
 rw[if_pos hi]
 exact wpAny_update ho h
theorem a0x{α:Type}{o o0:Obj}{vs ws:Array Value}{Q:α->Shared->Prop}(hh:A.handled=some (.ref e0))(n:e0≠e)(h0:s.heap.get? e0=some o0)(hd0:o0.data=.fields ws)(h2:ws[2]? = some .none)
  (ho:s.heap.get? e=some o) (hd:o.data=.fields vs) (hv:2<vs.size) (h:E (.ref e) {s with heap:=s.heap.update e (Obj.mapFields (·.setIfInBounds 2 (.ref e0)))}):wpAny (model prog w) A (raiseNew (.ref e):Sem α) Q E s:=by
 unfold raiseNew
 refine wpAny_bind (wpAny_handled ?_)
 rw[hh]
 dsimp only
 rw[if_pos (show(Value.ref e0 != Value.ref e)=true by simpa using n)]
 exact wpAny_bind (wpAny_holding (unchain h0 hd0 h2 (wpAny_bind (a4t ho hd hv (wpAny_throw h)))))
theorem a0z{K:PySem.W.Frag}{x:Sem Value}{c:Sem Value}{Q:Flow->Shared->Prop}(hh:A.handled=some (.ref e0))(hc:∀(s:Shared) (Q:Value->Shared->Prop),Q .none s->wpAny (model prog w) A c Q E s)
  (h:wpAny (model prog w) A x (λv s1=>∃e C dx,v=.ref e/\e0≠e/\K.In s1.heap/\uy K C/\mq e C dx s1.heap/\(∃o0 ws,s1.heap.get? e0=some o0/\o0.data=.fields ws/\ws[2]? = some .none) /\
   ∀h' vs,Rc h' e (.ref C) (some dx) vs->1<vs.size->vs[1]? = some .none->(∀b,b≠e->h'.get? b=s1.heap.get? b)->E (.ref e) {s1 with heap:=h'}) E s):wpAny (model prog w) A (raiseStmt env (some x) (some c)) Q E s:=by
 unfold raiseStmt
 refine wpAny_bind (wpAny_mono h (λv s1 z=>?_) λ_ _ z=>z)
 obtain⟨e,C,dx,rfl,ne,X,xc,⟨vs,R,hv,h1,h2⟩,⟨o0,ws,g0,d0,w2⟩,hE⟩:=z
 obtain⟨nm,q,N',bs,bm,sn,sub,ab,col,dd,k0,k1,k2,k3,k5,lk,b1,b2,b3,b4⟩:=xc.obj
 have hcl:=X _ _ lk
 obtain⟨⟨oc,od,odt,osl⟩,ho,rfl,rfl,rfl⟩:=R.out
 have cB:(Value.ref C::bm).contains (.type "BaseException")=true:=by rw[List.contains_cons,b2,Bool.or_true]
 obtain⟨hp,g,d,tk,os⟩:=s1
 refine wpAny_bind (wpAny_holding (hc _ _ (wpAny_bind (wpAny_pure ?_))))
 repeat (first | with_reducible refine wpAny_loadPart_at ho ?_ | with_reducible refine wpAny_loadPart_at hcl ?_ | (with_reducible refine wpAny_isSubtype_exc hcl ?_;rw[cB]) | (with_reducible refine wpAny_field ho rfl h1 ?_) | wp_step)
 have nC:C≠e:=λz=>by
  rw[z]at hcl
  rw[ho]at hcl
  cases hcl
 rw[if_pos (by omega)]
 refine wpAny_update ho ?_
 have ho1:(hp.update e (Obj.mapFields λx=>x.setIfInBounds 3 Value.none)).get? e=some {cls:=Value.ref C,dict:=some dx,data:=Data.fields (vs.setIfInBounds 3 Value.none),slots:=osl}:=Heap.get?_update_self _ ho rfl
 have ot1:∀b,b≠e->(hp.update e (Obj.mapFields λx=>x.setIfInBounds 3 Value.none)).get? b=hp.get? b:=λb nb=>Heap.get?_update_other _ _ (Ne.symm nb)
 generalize hp.update e (Obj.mapFields λx=>x.setIfInBounds 3 Value.none)=hp1 at ho1 ot1 ⊢
 refine wpAny_bind (wpAny_setField (s:=⟨hp1,g,d,tk,os⟩) ho1 rfl (by rw[Array.size_setIfInBounds];exact hv) ?_)
 have ho2:(hp1.update e (Obj.mapFields λx=>x.setIfInBounds 4 (Value.bool true))).get? e=some {cls:=Value.ref C,dict:=some dx,data:=Data.fields ((vs.setIfInBounds 3 Value.none).setIfInBounds 4 (Value.bool true)),slots:=osl}:=Heap.get?_update_self _ ho1 rfl
 have ot2:∀b,b≠e->(hp1.update e (Obj.mapFields λx=>x.setIfInBounds 4 (Value.bool true))).get? b=hp.get? b:=λb nb=>(Heap.get?_update_other _ _ (Ne.symm nb)).trans (ot1 b nb)
 generalize hp1.update e (Obj.mapFields λx=>x.setIfInBounds 4 (Value.bool true))=hp2 at ho2 ot2 ⊢
 have hcl2:hp2.get? C=some (excClassObj nm q C N' bs bm true sn sub ab col dd k0 k1 k2 k3 k5 "Exception.__new__"):=(ot2 C nC).trans hcl
 have g02:hp2.get? e0=some o0:=(ot2 e0 ne).trans g0
 generalize hvs:(vs.setIfInBounds 3 Value.none).setIfInBounds 4 (Value.bool true)=vs2 at ho2
 have v1:vs2[1]? = some Value.none:=by rw[<-hvs];simpa using h1
 have vz:4<vs2.size:=by rw[<-hvs];simpa using hv
 repeat (first | with_reducible refine wpAny_loadPart_at ho2 ?_ | with_reducible refine wpAny_loadPart_at hcl2 ?_ | (with_reducible refine wpAny_isSubtype_exc hcl2 ?_;rw[cB]) | (with_reducible refine wpAny_field ho2 rfl v1 ?_) | wp_step)
 refine a0x (s:=⟨hp2,g,d,tk,os⟩) hh ne g02 d0 w2 ho2 rfl (by omega) ?_
 refine hE _ (vs2.setIfInBounds 2 (.ref e0)) ⟨_,Heap.get?_update_self _ ho2 rfl,rfl,rfl,rfl⟩ (by rw[Array.size_setIfInBounds];omega) (by simpa using v1) λb nb=>(Heap.get?_update_other _ _ (Ne.symm nb)).trans (ot2 b nb)
end
theorem auq(l:Addr)(xs:Array Value)(n:Nat)(b:Addr)(ys:Array Value)(m:Nat)(dx:Option Addr)(sl:Array (Option Value))(h0:¬(!xs.isEmpty&&Builtin.List.listTooLong (xs.size+ys.size))=true)(h1:xs.size<=sizeLine)(h2:xs.size+ys.size<=sizeLine+1):
  Meets (Builtin.«list.extend» ⟨[.ref l,.ref b],[]⟩) (λ_ R s=>s.heap.get? l=some {cls:=.type "list",dict:=none,data:=.seq xs n,slots:=#[]}/\s.heap.get? b=some ⟨.type "tuple",dx,.seq ys m,sl⟩/\R (.ok (.ret Value.none)) {s with heap:=s.heap.update l (Obj.mapSeq λx=>x++ys),toks:=s.toks}) :=
 .of_wp λprog w A R s h=>by
  obtain⟨hp,g,d,tk,os⟩:=s
  obtain⟨hl,hb,h⟩:=h
  have f1:=sub_tuple_tuple
  have f2:=sub_list_list
  have f3:=sub_tuple_list
  have f4:=sub_list_tuple
  have hz:(xs++ys).size<=sizeLine+1:=by
   rw[Array.size_append]
   exact h2
  wp_walk using(wpAny_updateSeq hl rfl (hz:=h1) (_hz':=hz)),wpAny_loadPart' hl,wpAny_loadPart' hb
  exact⟨_,rfl,h⟩
def a0s(K:PySem.W.Frag):V->List V->Hp->VK->Prop:=λx vs H Q=>∃l b xs zs,x=.ref l/\vs=[.ref b]/\H l=some (.lst xs)/\SqT K H b zs/\xs.length+zs.length<=sizeLine/\Q .non (upd H l (.lst (xs++zs)))
theorem aw1{X:Cx}:MtM X "list.extend" (a0s X.K):=by
 intro pins s σ H x vs v us Q I rx rv h
 obtain⟨l,b,xs,zs,rfl,rfl,hH,hB,hz,q⟩:=h
 cases rx
 obtain⟨u,rfl,ru⟩:=rv.one
 cases ru
 obtain⟨z,its,n,r,hl,e⟩:=I.acb hH
 obtain⟨its2,r2,⟨⟨oc,od,odt,osl⟩,e2,hc2,n2,hd2⟩,hz2⟩:=I.tuple hB
 have hc2:oc=.type "tuple" := hc2
 have hd2:odt=.seq its2.toArray n2:=hd2
 subst hc2 hd2
 have l1:=r.length
 have l2:=r2.length
 have hsz:its.toArray.size+its2.toArray.size<=sizeLine:=by rw[List.size_toArray,List.size_toArray];omega
 have hlong:¬(!its.toArray.isEmpty&&Builtin.List.listTooLong (its.toArray.size+its2.toArray.size))=true:=by
  rw[ano hsz,Bool.and_false]
  exact Bool.false_ne_true
 refine call_meets F.slot_list_extend ⟨_,e,rfl⟩ F.entry_list_extend (F.args_list_extend_2 _ _) (auq l its.toArray n b its2.toArray n2 od osl hlong (by rw[List.size_toArray];omega) (by omega)) ⟨e,e2,?_⟩
 refine⟨.non,_,I.ahq (its':=its++its2) hH e (by simp) (r.append r2) ?_,rfl,q⟩
 rw[List.length_append]
 omega
structure aef(z TI TO i1 i2 l:Addr):Prop where
 a1:TI≠z
 a2:TO≠z
 a3:i1≠z
 a4:i2≠z
 a5:TI≠TO
 a6:TI≠i1
 a7:TI≠i2
 a8:TO≠i1
 a9:TO≠i2
 b1:i1≠i2
 b2:l≠z
 b3:l≠TO
 b4:l≠i1
 b5:l≠i2
abbrev zz(h:Heap)(i:Addr)(y:Str)(t:Tok)(k:Nat):Prop:=h.IsStrIter i "str_ascii_iterator" y t k
section
variable{prog:Program}{w:World}{A:Around}{E:Value->Shared->Prop}{s:Shared}{z TI TO i1 i2 l:Addr}{k:Nat}{xs:Array Value}{x a b:Value}{y:Str}{t:Tok}{c:Nat}
theorem a5g(D:aef z TI TO i1 i2 l)(hz:IsZip s.heap z TI TO .none)(hTI:IsPair s.heap TI (.ref i1) (.ref i2))(hTO:IsPair s.heap TO a b)(h1:s.heap.IsListIter i1 l k)(h2:zz s.heap i2 y t k)(hl:s.heap.IsList l xs)(hx:xs[k]? = some x)(hy:y.cps[k]? = some c){Q:Value->Shared->Prop}
  (hQ:∀h' tv tk,IsZip h' z TI TO (rawInt s.heap.objs.size)->IsPair h' TO x (.str ⟨#[c]⟩ tv)->h'.IsListIter i1 l (k+1)->zz h' i2 y t (k+1)->IsPair h' s.heap.objs.size x (.str ⟨#[c]⟩ tv)->h'.objs.size=s.heap.objs.size+1 ->
   (∀d o,d≠z->d≠TO->d≠i1->d≠i2->s.heap.get? d=some o->h'.get? d=some o)->Q (.ref s.heap.objs.size) {s with heap:=h',toks:=tk}) :
  wpAny (model prog w) A (Builtin.«zip.__next__» ⟨[.ref z],[]⟩) (λfin s'=>∃v,fin=.done (.ret v)/\Q v s') E s:=by
 show wpAny _ _ (field (.ref z) 2 >>= _) _ _ s
 refine wpAny_bind (wpAny_field hz rfl (x:=.bool false) rfl ?_)
 show wpAny _ _ (field (.ref z) 3 >>= _) _ _ s
 refine wpAny_bind (wpAny_field hz rfl (x:=.ref TI) rfl (wpAny_bind (wpAny_seqItems hTI rfl ?_)))
 refine wpAny_bind (m:=Builtin.SmallTypes.ownedTupleIsFree (.ref z)) ?_
 unfold Builtin.SmallTypes.ownedTupleIsFree
 refine wpAny_bind (wpAny_field hz rfl (x:=.none) rfl (wpAny_pure ?_))
 simp only[if_true]
 refine wpAny_bind (wpAny_rule (wpAny_bind (wpAny_field hz rfl (x:=.ref TO) rfl (wpAny_bind (wpAny_setField_rec hz (by simp) λg1 hz1 e1=>wpAny_bind ?_)))))
 have hz1:IsZip g1 z TI TO .ellipsis:=hz1
 simp only[List.zipIdx_cons,List.zipIdx_nil,List.forIn_cons,List.forIn_nil]
 refine wpAny_bind (wpAny_bind (wpAny_onRaise (wpAny_bind (m:=Builtin.SmallTypes.nextOf (.ref i1)) ?_)))
 refine wpAny_nextOf_list_item (h1.extBut e1.extBut D.a3) (hl.extBut e1.extBut D.b2) hx λg2 p2 e2=>wpAny_pure ?_
 have q2:IsPair g2 TO a b:=e2.extBut _ _ D.a8 (e1.extBut _ _ D.a2 hTO)
 refine wpAny_bind (wpAny_seqItems q2 rfl (wpAny_bind (wpAny_updateSeq_pair q2 λg3 q3 e3=>wpAny_bind (wpAny_letGo (wpAny_pure ?_)))))
 have q3:IsPair g3 TO x b:=q3
 refine wpAny_bind (wpAny_bind (wpAny_onRaise (wpAny_bind (m:=Builtin.SmallTypes.nextOf (.ref i2)) ?_)))
 have r3:zz g3 i2 y t k:=((h2.extBut e1.extBut D.a4).extBut e2.extBut (Ne.symm D.b1)).extBut e3.extBut (Ne.symm D.a9)
 refine wpAny_nextOf_ascii_item (s:={s with heap:=g3}) r3 hy λg4 r4 e4=>wpAny_pure ?_
 have q4:IsPair g4 TO x b:=e4.extBut _ _ D.a9 q3
 refine wpAny_bind (wpAny_seqItems q4 rfl (wpAny_bind (wpAny_updateSeq_pair (s:={s with heap:=g4,toks:=s.toks+1}) q4 λg5 q5 e5=>wpAny_bind (wpAny_letGo (wpAny_pure (wpAny_pure ?_))))))
 have q5:IsPair g5 TO x (.str ⟨#[c]⟩ s.toks):=q5
 refine wpAny_bind (wpAny_seqItems q5 rfl (wpAny_bind (wpAny_newTuple ?_)))
 have hsz:g5.objs.size=s.heap.objs.size:=e5.1.trans (e4.1.trans (e3.1.trans (e2.1.trans e1.1)))
 have kp:∀d o,d≠z->d≠TO->d≠i1->d≠i2->s.heap.get? d=some o->g5.get? d=some o:=λd o n1 n2 n3 n4 q=>e5.extBut _ _ n2 (e4.extBut _ _ n4 (e3.extBut _ _ n2 (e2.extBut _ _ n3 (e1.extBut _ _ n1 q))))
 have hz5:IsZip g5 z TI TO .ellipsis:=e5.extBut _ _ (Ne.symm D.a2) (e4.extBut _ _ (Ne.symm D.a4) (e3.extBut _ _ (Ne.symm D.a2) (e2.extBut _ _ (Ne.symm D.a3) hz1)))
 have p5:g5.IsListIter i1 l (k+1):=((p2.extBut e3.extBut (Ne.symm D.a8)).extBut e4.extBut D.b1).extBut e5.extBut (Ne.symm D.a8)
 have r5:zz g5 i2 y t (k+1):=r4.extBut e5.extBut (Ne.symm D.a9)
 have lz:z<g5.objs.size:=Heap.lt_size hz5
 refine wpAny_bind (m:=Builtin.SmallTypes.ownedTupleHandOut (.ref z) (.ref g5.objs.size)) ?_
 unfold Builtin.SmallTypes.ownedTupleHandOut
 have hz6:IsZip (g5.push {cls:=.type "tuple",data:=.seq #[x,.str ⟨#[c]⟩ s.toks]}) z TI TO .ellipsis:=Heap.get?_push_of_some _ hz5
 refine wpAny_bind (wpAny_setField_rec hz6 (by simp) λg7 hz7 e7=>?_)
 have hz7:IsZip g7 z TI TO (rawInt g5.objs.size):=hz7
 refine wpAny_setField_rec hz7 (by simp) λg8 hz8 e8=>wpAny_pure ⟨_,rfl,?_⟩
 have hz8:IsZip g8 z TI TO (rawInt g5.objs.size):=hz8
 have up:∀d o,d≠z->g5.get? d=some o->g8.get? d=some o:=λd o n q=>e8.extBut _ _ n (e7.extBut _ _ n (Heap.get?_push_of_some _ q))
 have new:IsPair g8 g5.objs.size x (.str ⟨#[c]⟩ s.toks):=e8.extBut _ _ (Nat.ne_of_gt lz) (e7.extBut _ _ (Nat.ne_of_gt lz) (Heap.get?_push_size _ rfl))
 have sz8:g8.objs.size=g5.objs.size+1:=e8.1.trans (e7.1.trans (Heap.size_push _ _))
 rw[hsz]at hz8 new sz8
 show Q (.ref g5.objs.size) _
 rw[hsz]
 exact hQ g8 _ _ hz8 (up _ _ D.a2 q5) (p5.at λo q=>up _ o D.a3 q) (let ⟨o,q,r⟩:=r5;⟨o,up _ o D.a4 q,r⟩) new sz8 λd o n1 n2 n3 n4 q=>up d o n1 (kp d o n1 n2 n3 n4 q)
theorem a5e(hh:A.handled=none)(D:aef z TI TO i1 i2 l)(hz:IsZip s.heap z TI TO .none)(hTI:IsPair s.heap TI (.ref i1) (.ref i2))(hTO:IsPair s.heap TO a b)(h1:s.heap.IsListIter i1 l k)(h2:zz s.heap i2 y t k)(hl:s.heap.IsList l xs)(he:xs[k]? = none\/y.cps[k]? = none){Q:Fin->Shared->Prop}
  (hE:∀h' e,(∀d o,d≠z->d≠TO->d≠i1->d≠i2->s.heap.get? d=some o->h'.get? d=some o)->(∃o,h'.get? e=some o/\o.cls=.type "StopIteration")->E (.ref e) {s with heap:=h'}) :
  wpAny (model prog w) A (Builtin.«zip.__next__» ⟨[.ref z],[]⟩) Q E s:=by
 show wpAny _ _ (field (.ref z) 2 >>= _) _ _ s
 refine wpAny_bind (wpAny_field hz rfl (x:=.bool false) rfl ?_)
 show wpAny _ _ (field (.ref z) 3 >>= _) _ _ s
 refine wpAny_bind (wpAny_field hz rfl (x:=.ref TI) rfl (wpAny_bind (wpAny_seqItems hTI rfl ?_)))
 refine wpAny_bind (m:=Builtin.SmallTypes.ownedTupleIsFree (.ref z)) ?_
 unfold Builtin.SmallTypes.ownedTupleIsFree
 refine wpAny_bind (wpAny_field hz rfl (x:=.none) rfl (wpAny_pure ?_))
 simp only[if_true]
 refine wpAny_bind (wpAny_rule (wpAny_bind (wpAny_field hz rfl (x:=.ref TO) rfl (wpAny_bind (wpAny_setField_rec hz (by simp) λg1 hz1 e1=>wpAny_bind ?_)))))
 have hz1:IsZip g1 z TI TO .ellipsis:=hz1
 simp only[List.zipIdx_cons,List.zipIdx_nil,List.forIn_cons,List.forIn_nil]
 refine wpAny_bind (wpAny_bind (wpAny_onRaise (wpAny_bind (m:=Builtin.SmallTypes.nextOf (.ref i1)) ?_)))
 cases hx:xs[k]? with
 | none =>
  refine wpAny_nextOf_list_end hh (h1.extBut e1.extBut D.a3) (hl.extBut e1.extBut D.b2) hx λg2 e e2 he=>?_
  obtain⟨oe,q1,q2⟩:=he
  have hz2:IsZip g2 z TI TO .ellipsis:=e2 _ _ (Ne.symm D.a3) hz1
  have nez:e≠z:=λq=>by
   rw[q,hz2]at q1
   cases q1
   simp at q2
  exact wpAny_setField_rec hz2 (by simp) λg3 _ e3=>hE g3 e (λd o n1 _ n3 _ q=>e3.extBut _ _ n1 (e2 _ _ n3 (e1.extBut _ _ n1 q))) ⟨oe,e3.extBut _ _ nez q1,q2⟩
 | some v =>
  have hy:y.cps[k]? = none:=he.elim (λq=>by rw[hx]at q;cases q) id
  refine wpAny_nextOf_list_item (h1.extBut e1.extBut D.a3) (hl.extBut e1.extBut D.b2) hx λg2 p2 e2=>wpAny_pure ?_
  have q2:IsPair g2 TO a b:=e2.extBut _ _ D.a8 (e1.extBut _ _ D.a2 hTO)
  refine wpAny_bind (wpAny_seqItems q2 rfl (wpAny_bind (wpAny_updateSeq_pair q2 λg3 q3 e3=>wpAny_bind (wpAny_letGo (wpAny_pure ?_)))))
  refine wpAny_bind (wpAny_bind (wpAny_onRaise (wpAny_bind (m:=Builtin.SmallTypes.nextOf (.ref i2)) ?_)))
  have r3:zz g3 i2 y t k:=((h2.extBut e1.extBut D.a4).extBut e2.extBut (Ne.symm D.b1)).extBut e3.extBut (Ne.symm D.a9)
  refine wpAny_nextOf_ascii_end (s:={s with heap:=g3}) hh r3 hy λg4 e e4 he=>?_
  obtain⟨oe,o1,o2⟩:=he
  have hz4:IsZip g4 z TI TO .ellipsis:=e4 _ _ (Ne.symm D.a4) (e3.extBut _ _ (Ne.symm D.a2) (e2.extBut _ _ (Ne.symm D.a3) hz1))
  have nez:e≠z:=λq=>by
   rw[q,hz4]at o1
   cases o1
   simp at o2
  exact wpAny_setField_rec (s:={s with heap:=g4}) hz4 (by simp) λg5 _ e5=>hE g5 e (λd o n1 n2 n3 n4 q=>e5.extBut _ _ n1 (e4 _ _ n4 (e3.extBut _ _ n2 (e2.extBut _ _ n3 (e1.extBut _ _ n1 q))))) ⟨oe,e5.extBut _ _ nez o1,o2⟩
end
def akv(K:PySem.W.Frag)(a:Addr)(y:Str):It :=
 ⟨λi H=>∃(xs:List V) (x:V) (c:Nat),SqL K H a xs/\xs[i]? = some x/\y.cps[i]? = some c,
  λi H v H'=>∃T x c,v=.ref T/\H T=none/\H'=upd H T (.tup [x,.str ⟨#[c]⟩])/\(∀xs,SqL K H a xs->xs[i]? = some x)/\y.cps[i]? = some c,
  λi H=>∃xs:List V,SqL K H a xs/\(xs.length<=i\/y.cps.size<=i)⟩
theorem five{c z TI TO i1 i2:Addr}(h:c∈[z,TI,TO,i1,i2]):c=z\/c=TI\/c=TO\/c=i1\/c=i2:=by simpa using h
theorem a4n{P:Program}{w:World}{K:PySem.W.Frag}{elts:List Expr}{kk:Nat}{tpos:Pos}{a z TI TO i1 i2:Addr}{y:Str}{t:Tok}(D:aef z TI TO i1 i2 a):
  Turn P w K (.Tuple elts kk tpos) (akv K a y) [z,TI,TO,i1,i2] z (λi h=>IsZip h z TI TO .none/\IsPair h TI (.ref i1) (.ref i2)/\(∃u v,IsPair h TO u v)/\h.IsListIter i1 a i/\zz h i2 y t i) where
 mem:=by simp
 obj:=λi h st c hc=>by
  obtain⟨hz,hTI,⟨u,v,hTO⟩,⟨o1,p1,_,d1⟩,⟨o2,p2,_,d2⟩⟩:=st
  rcases five hc with q | q | q | q | q<;>rw[q]
  ·exact⟨_,hz,λ_ k=>nomatch k⟩
  ·exact⟨_,hTI,λ_ k=>nomatch k⟩
  ·exact⟨_,hTO,λ_ k=>nomatch k⟩
  ·exact⟨o1,p1,λ_ k=>by rw[d1]at k;cases k⟩
  ·exact⟨o2,p2,λ_ k=>by rw[d2]at k;cases k⟩
 keep:=λi h h' st k=>by
  obtain⟨hz,hTI,⟨u,v,hTO⟩,h1,⟨o2,p2,r2⟩⟩:=st
  exact⟨k z (by simp) _ hz,k TI (by simp) _ hTI,⟨u,v,k TO (by simp) _ hTO⟩,h1.at λo q=>k i1 (by simp) o q,o2,k i2 (by simp) o2 p2,r2⟩
 item:=by
  intro X hP hw hK hc i pins s σ H E I hf st hg
  subst hP hw hK
  obtain⟨hz,hTI,⟨u0,v0,hTO⟩,h1,h2⟩:=st
  obtain⟨xs,x,c,hq,hx,hy⟩:=hg
  obtain⟨its,rv,p,_⟩:=I.list hq
  obtain⟨u,hu,ru⟩:=rv.get hx
  have lz:z<s.heap.objs.size:=Heap.lt_size hz
  have hT:s.TypeIs (.ref z) "zip" := ⟨_,hz,rfl⟩
  unfold pyNext
  refine wpAny_bind (wpAny_attempt (wpAny_callSpecial?_slot (name:=Str.ofString "__next__") hT F.slot_zip_next (wpAny_call_entry F.slot_zip_next hT F.entry_zip_next (a5g D hz hTI hTO h1 h2 p.isList (x:=u) (by simpa using hu) hy λh' tv tk z' TO' h1' h2' hN hsz hk=>wpAny_pure ?_) (F.args_zip_next_1 _))))
  refine⟨_,rfl,wpAny_letOwnedTupleGo_zip (s:={s with heap:=h',toks:=tk}) z' λh'' z'' sb=>?_⟩
  have hN2:h''.get? s.heap.objs.size=some {cls:=.type "tuple",data:=.seq #[u,.str ⟨#[c]⟩ tv]}:=(sb.2 _ (Nat.ne_of_gt lz)).trans hN
  have new:gq X.prog X.w (upd H s.heap.objs.size (.tup [x,.str ⟨#[c]⟩])) h'' s.heap.objs.size (.tup [x,.str ⟨#[c]⟩]) :=
   ⟨by show 2<=sizeLine;decide,[u,.str ⟨#[c]⟩ tv],.cons ru (.cons ⟨tv,rfl⟩ .nil),⟨_,hN2,rfl,_,rfl⟩⟩
  have out:∀{d:Addr},d∉[z,TI,TO,i1,i2]->d≠z/\d≠TO/\d≠i1/\d≠i2:=λh=>⟨λq=>h (by simp[q]),λq=>h (by simp[q]),λq=>h (by simp[q]),λq=>h (by simp[q])⟩
  have I1:Inv X pins σ (upd H s.heap.objs.size (.tup [x,.str ⟨#[c]⟩])) {s with heap:=h'',toks:=tk} :=
   I.arz (t':=tk) (ch:=[z,TI,TO,i1,i2]) (λd o hb q=>(sb.2 d (out hb).1).trans (hk d o (out hb).1 (out hb).2.1 (out hb).2.2.1 (out hb).2.2.2 q)) hf (Nat.le_refl _) new
  refine⟨.ref s.heap.objs.size,_,I1,rfl,⟨_,x,c,rfl,I.hok.fresh (Nat.le_refl _),rfl,λl hl=>by rw[I.ae3 hl hq];exact hx,hy⟩,⟨z'',?_,⟨u,.str ⟨#[c]⟩ tv,?_⟩,?_,?_⟩,λd hd=>?_⟩
  ·exact(sb.2 _ D.a1).trans (hk _ _ D.a1 D.a5 D.a6 D.a7 hTI)
  ·exact(sb.2 _ D.a2).trans TO'
  ·exact h1'.at λo q=>(sb.2 _ D.a3).trans q
  ·obtain⟨o2,q2,r2⟩:=h2'
   exact⟨o2,(sb.2 _ D.a4).trans q2,r2⟩
  ·have hlt:d<s.heap.objs.size:=by
    obtain⟨_,q1,_⟩:=h1
    obtain⟨_,q2,_⟩:=h2
    rcases five hd with q | q | q | q | q<;>rw[q]
    ·exact lz
    ·exact Heap.lt_size hTI
    ·exact Heap.lt_size hTO
    ·exact Heap.lt_size q1
    ·exact Heap.lt_size q2
   rw[ao (Nat.ne_of_lt hlt)]
   exact(hf d hd).1
 done:=by
  intro X hP hw hK hc i pins s σ H E I hf st hg
  subst hP hw hK
  obtain⟨hz,hTI,⟨u0,v0,hTO⟩,h1,h2⟩:=st
  obtain⟨xs,hq,hend⟩:=hg
  obtain⟨its,rv,p,_⟩:=I.list hq
  have l1:=rv.length
  have he:its.toArray[i]? = none\/y.cps[i]? = none:=hend.imp (λq=>by simp;omega) λq=>Array.getElem?_eq_none q
  have hT:s.TypeIs (.ref z) "zip" := ⟨_,hz,rfl⟩
  unfold pyNext
  refine wpAny_bind (wpAny_attempt (wpAny_callSpecial?_slot (name:=Str.ofString "__next__") hT F.slot_zip_next (wpAny_call_entry F.slot_zip_next hT F.entry_zip_next (a5e (A:=X.A.in1) (show X.A.in1.handled=none from I.ok.hd hc) D hz hTI hTO h1 h2 p.isList he λh' e hk he=>?_) (F.args_zip_next_1 _))))
  obtain⟨o,ho,hoc⟩:=he
  refine wpAny_bind (wpAny_isInstance (T := "StopIteration") (b:=true) (show({s with heap:=h'}:Shared).TypeIs (.ref e) "StopIteration" from⟨o,ho,hoc⟩) isSubtype_stop ?_)
  refine wpAny_pure ⟨rfl,I.arx (t':=s.toks) (ch:=[z,TI,TO,i1,i2]) (λd u hb q=>?_) hf⟩
  exact hk d u (λk=>hb (by simp[k])) (λk=>hb (by simp[k])) (λk=>hb (by simp[k])) (λk=>hb (by simp[k])) q
 self:=λA i s Q E st h=>wpAny_pyIter_zip st.1 h
abbrev zl1(h:Heap)(l:Addr):Heap:=h.push {cls:=.type "list_iterator",data:=.fields #[.ref l,.int 0 0]}
abbrev zl2(h:Heap)(l:Addr)(y:Str)(t:Tok):Heap:=(zl1 h l).push {cls:=.type "str_ascii_iterator",data:=.fields #[.str y t,.int 0 0]}
abbrev zl3(h:Heap)(l:Addr)(y:Str)(t:Tok):Heap:=(zl2 h l y t).push {cls:=.type "tuple",data:=.seq #[.ref h.objs.size,.ref (zl1 h l).objs.size]}
abbrev zl4(h:Heap)(l:Addr)(y:Str)(t:Tok):Heap:=(zl3 h l y t).push {cls:=.type "tuple",data:=.seq #[.none,.none]}
abbrev zl5(h:Heap)(l:Addr)(y:Str)(t:Tok):Heap:=(zl4 h l y t).push {cls:=.type "zip",data:=.fields #[.none,.bool false,.bool false,.ref (zl2 h l y t).objs.size,.ref (zl3 h l y t).objs.size]}
theorem a5f(l:Addr)(y:Str)(t:Tok)(xs:Array Value)(ha:y.cps.all (·< 128)=true):
  Meets (Builtin.«zip.__new__» ⟨[.type "zip",.ref l,.str y t],[]⟩) (λ_ R s=>s.heap.IsList l xs/\R (.ok (.ret (.ref (zl4 s.heap l y t).objs.size))) {s with heap:=zl5 s.heap l y t}) :=
 .of_wp λprog w A R s h=>by
  obtain⟨hp,g,d,tk,os⟩:=s
  obtain⟨hl,h⟩:=h
  have hsub:=sub_zip
  have hL:Heap.IsList (Shared.heap ⟨hp,g,d,tk,os⟩) l xs:=hl
  wp_walk using wpAny_pyIter_list hL,wpAny_pyIter_ascii ha
  exact⟨_,rfl,h⟩
section
variable{prog:Program}{w:World}{A:Around}{E:Value->Shared->Prop}{s:Shared}
theorem a5d{l:Addr}{y:Str}{t:Tok}{xs:Array Value}{Q:Value->Shared->Prop}(hl:s.heap.IsList l xs)(ha:y.cps.all (·< 128)=true)
  (h:∀h',IsZip h' (s.heap.objs.size+4) (s.heap.objs.size+2) (s.heap.objs.size+3) .none->IsPair h' (s.heap.objs.size+2) (.ref s.heap.objs.size) (.ref (s.heap.objs.size+1))->IsPair h' (s.heap.objs.size+3) .none .none ->
   h'.IsListIter s.heap.objs.size l 0->zz h' (s.heap.objs.size+1) y t 0->(∀c o,s.heap.get? c=some o->h'.get? c=some o)->Q (.ref (s.heap.objs.size+4)) {s with heap:=h'}) :
  wpAny (model prog w) A (call (.type "zip") [.ref l,.str y t]) Q E s:=by
 refine callType_new F.called_zip (by decide) (F.typeCall_zip_2 _ _) (F.newCall_zip_2 _ _) (λobj=>F.args_object_init_3 obj _ _) F.entry_zip_new (a5f l y t xs ha) ⟨hl,?_⟩
 have z1:(zl1 s.heap l).objs.size=s.heap.objs.size+1:=Heap.size_push ..
 have z2:(zl2 s.heap l y t).objs.size=s.heap.objs.size+2:=(Heap.size_push ..).trans (by rw[z1])
 have z3:(zl3 s.heap l y t).objs.size=s.heap.objs.size+3:=(Heap.size_push ..).trans (by rw[z2])
 have z4:(zl4 s.heap l y t).objs.size=s.heap.objs.size+4:=(Heap.size_push ..).trans (by rw[z3])
 have pk:∀{h:Heap}{o u:Obj}{c:Addr},h.get? c=some o->(h.push u).get? c=some o:=λq=>Heap.get?_push_of_some _ q
 have p5:(zl5 s.heap l y t).get? (zl4 s.heap l y t).objs.size=some _:=Heap.get?_push_size _ rfl
 have p4:(zl5 s.heap l y t).get? (zl3 s.heap l y t).objs.size=some _:=pk (Heap.get?_push_size _ rfl)
 have p3:(zl5 s.heap l y t).get? (zl2 s.heap l y t).objs.size=some _:=pk (pk (Heap.get?_push_size _ rfl))
 have p2:(zl5 s.heap l y t).get? (zl1 s.heap l).objs.size=some _:=pk (pk (pk (Heap.get?_push_size _ rfl)))
 have p1:(zl5 s.heap l y t).get? s.heap.objs.size=some _:=pk (pk (pk (pk (Heap.get?_push_size _ rfl))))
 show _/\_
 rw[z2,z3,z4]at p5
 rw[z1,z2]at p3
 rw[z3]at p4
 rw[z1]at p2
 rw[z4]
 exact⟨⟨_,p5,rfl⟩,h _ p5 p3 p4 ⟨_,p1,rfl,rfl⟩ ⟨_,p2,rfl,rfl⟩ λc o q=>pk (pk (pk (pk (pk q))))⟩
end
theorem a5c(n a:Nat)(h:a<n):aef (n+4) (n+2) (n+3) n (n+1) a:=by
 constructor<;>(intro q;have q:@Eq Nat _ _:=q;omega)
def avf(K:PySem.W.Frag)(ta:TA):TI:=λσ H R=>ta σ H λvs H1=>∃(a:Addr) (y:Str) (xs:List V),vs=[.ref a,.str y]/\y.cps.all (·< 128)=true/\SqL K H1 a xs/\R (akv K a y) H1
theorem a0e{X:Cx}{e e2:Expr}{ta:TA}{p pos tpos:Pos}{elts:List Expr}{kk:Nat}(hg:Gl X "zip")(hm:X.mg "zip" = none)(ha:PA X [e,e2] ta)
  (hs:starEach [e,e2] X.env=(false,eval e X.env)::starEach [e2] X.env:=by rfl) (hpl:(backTo pos (starEach [e2] X.env)).any (·.1)=false:=by rfl) :
  PI X (.Tuple elts kk tpos) (.Call (.Name "zip" p) [e,e2] [] pos) (avf X.K ta):=by
 intro pins s σ H R I h
 refine Call_ (ab8 I hg hm alk (PyProof.Rows.callWith_type1 (thn (ha pos pins s σ H _ I h) λus s1 ⟨vs,H1,I1,r1,q1⟩=>?_) hs hpl))
 obtain⟨a,y,xs,rfl,hasc,hq,q⟩:=q1
 cases r1 with
 | cons r rr =>
  cases rr with
  | cons r' rr =>
   cases rr
   cases r
   obtain⟨t,rfl⟩:=r'
   obtain⟨its,rv,p1,_⟩:=I1.list hq
   have la:a<s1.heap.objs.size:=p1.lt
   refine a5d p1.isList hasc λh' hz hTI hTO h1 h2 hk=>wpAny_pyIter_zip hz ?_
   have I2:Inv X pins σ H1 {s1 with heap:=h'}:=I1.kept (t':=s1.toks) hk
   refine⟨s1.heap.objs.size+4,[s1.heap.objs.size+4,s1.heap.objs.size+2,s1.heap.objs.size+3,s1.heap.objs.size,s1.heap.objs.size+1],_,_,H1,rfl,I2,a4n (a5c s1.heap.objs.size a la),⟨hz,hTI,⟨_,_,hTO⟩,h1,h2⟩,λc hcm=>?_,q⟩
   have hle:s1.heap.objs.size<=c:=by
    rcases five hcm with q | q | q | q | q<;>rw[q]<;>first | exact Nat.le_add_right _ _ | exact Nat.le_refl _
   exact I1.abb hle (I1.hok.fresh hle)
def xg(e C dx:Addr)(h:Heap):Prop:=∃vs,Rc h e (.ref C) (some dx) vs/\vs[2]? = some .none
theorem aup{P:Program}{w:World}{H:Hp}{h:Heap}{e C dx:Addr}(x:xg e C dx h):gq P w H h e (.ext (xg e C dx)) :=
 ⟨x,let ⟨_,r,_⟩:=x;let ⟨o,q,_⟩:=r.out;⟨o,q⟩,λ_ _ ⟨vs,r,z⟩ k=>⟨vs,aii r k,z⟩⟩
section
variable{X:Cx}{pins:List (Addr×Obj)}{σ:L2.St}{H:Hp}{s:Shared}{e:Addr}{φ ψ:Heap->Prop}
theorem ahe{h':Heap}(I:Inv X pins σ H s)(he:H e=some (.ext φ))(k:∀b,b≠e->h'.get? b=s.heap.get? b)(ok:∀H',gq X.prog X.w H' h' e (.ext ψ)):Inv X pins σ (upd H e (.ext ψ)) {s with heap:=h'}:=by
 have um:∀b u,H b=some u->(∀φ,u≠.ext φ)->(upd H e (.ext ψ)) b=some u:=λb u q n=>by rw[ao (gb q he (n _))];exact q
 have ne:∀b,H b=none->b≠e:=λb z q=>by rw[q,he]at z;cases z
 obtain⟨oe,qe⟩:=(ok H).2.1
 have qe:h'.get? e=some oe:=qe
 refine I.un (t':=s.toks) ⟨λb o q n _ _=>(k b (ne b n)).trans q,λb o q n _ _=>⟨o.slots,(k b (ne b n)).trans q⟩,λb o q n _=>by rw[ao (ne b n)];exact n,λb o q _=>?_,λb xs q=>um b _ q (by intro _ z;cases z),λb o u q=>um b _ q (by intro _ z;cases z),
  λb ps q=>⟨#[],by rw[um b _ q (by intro _ z;cases z)];simp⟩⟩ λb u q=>?_
 ·by_cases hb:b=e
  ·rw[hb]
   exact⟨oe,qe⟩
  ·exact⟨o,(k b hb).trans q⟩
 ·by_cases hb:b=e
  ·subst hb
   rw[ak]at q
   cases q
   exact ok _
  ·rw[ao hb]at q
   refine(I.hok b u q).stay (λc v hc r=>(k c ?_).trans r) (λc r=>um c _ r (by intro _ z;cases z)) λc xs r=>um c _ r (by intro _ z;cases z)
   rcases hc with rfl | hc
   ·exact hb
   ·exact gb hc he (by intro z;cases z)
end
def ak0(X:Cx)(E:XK):Prop:=∀(pins:List (Addr×Obj)) (σ:L2.St) (H:Hp) (s:Shared) (e C dx:Addr) (φ:Heap->Prop) (cx:Option Value) (h3:Heap),Inv X pins σ H s->H e=some (.ext φ) ->
 (∀b o,(upd H e (.ext (il e C dx))) b=some o->b≠e->gq X.prog X.w (upd H e (.ext (il e C dx))) (PySem.W.hideAll s.heap (e::frs X.stack)) b o) ->
 Fly (PySem.W.hideAll s.heap (e::frs X.stack)) (X.env::X.outer) e (.ref C) (some dx) (some (rawInt X.env.locals)) cx h3->Up s.heap h3->E (late C) (some dx) (upd H e (.ext (il e C dx)))->X.xe (.ref e) {s with heap:=h3}
section
variable{P:Program}{w:World}{K:PySem.W.Frag}{mg:Str->Option Value}{base:Heap}{N:List Str}{qual:Str}{scope:Scope}{f:Addr}{cd:Value}{A:Around}{outer:List Env}{s0:Shared}{H0:Hp}{E:XK}
theorem a4a:ak0 (jo (XC P w) P w K mg base N qual scope f cd A outer s0 H0 E) E:=by
 intro pins σ H s e C dx φ cx h3 I he hok F U hE
 show wpAny _ _ (leaving _ (.ref e)) _ _ {s with heap:=h3}
 exact awc (s:={s with heap:=h3}) rfl F λh' F' U'=>ash (s:=s) (h':=h') I he hok F' (U.trans U') (.inr hE)
end
abbrev aeu(X:Cx)(e:Addr)(E':Value->Shared->Prop):Cx:={X with A:=X.A.mark (some (.ref e)),calm:=false,xe:=E'}
theorem avi{X:Cx}{pins:List (Addr×Obj)}{σ:L2.St}{H:Hp}{s:Shared}{e:Addr}{E':Value->Shared->Prop}(I:Inv X pins σ H s):Inv (aeu X e E') pins σ H s :=
 let ok:=I.ok;⟨⟨ok.mod,ok.kind,ok.glob,ok.blt,ok.above,ok.inj,ok.has,ok.cab,(λz=>by cases z),ok.frames,ok.stk,ok.exf,ok.bs,ok.bsz,ok.noex,ok.exfs,ok.lr,ok.frf⟩,I.os,I.bare,I.base,I.loc,I.cell,I.free,I.freeC,I.pin,I.hok,I.len⟩
theorem avk{X:Cx}{pins:List (Addr×Obj)}{σ:L2.St}{H:Hp}{s:Shared}{e:Addr}{E':Value->Shared->Prop}(hc:X.A.handled=none)(I:Inv (aeu X e E') pins σ H s):Inv X pins σ H s :=
 let ok:=I.ok;⟨⟨ok.mod,ok.kind,ok.glob,ok.blt,ok.above,ok.inj,ok.has,ok.cab,λ_=>hc,ok.frames,ok.stk,ok.exf,ok.bs,ok.bsz,ok.noex,ok.exfs,ok.lr,ok.frf⟩,I.os,I.bare,I.base,I.loc,I.cell,I.free,I.freeC,I.pin,I.hok,I.len⟩
def a3x(K:PySem.W.Frag)(C0:Addr)(n:Nat)(E:XK)(tb:XK->TS)(te:TE):TS:=λD σ H=>∃EX:XK,tb EX D σ H/\(∀C dx H',EX (late C) dx H'->False)/\∀e0 C dx H',EX (.ref C) (some dx) H'->H' e0=some (.ext (il e0 C dx)) ->
 PySem.W.exmOne K (.ref C) (.ref C0)=some true/\te (List.replicate n none) (upd H' e0 (.ext (xg e0 C dx))) λv H1=>∃e C' dx',v=.ref e/\e0≠e/\H1 e0=some (.ext (xg e0 C dx))/\H1 e=some (.ext (mq e C' dx'))/\uy K C'/\E (late C') (some dx') (upd (upd H1 e0 (.ext (il e0 C dx))) e (.ext (il e C' dx')))
theorem a0m{X:Cx}{C0:Addr}{x:Str}{body:List Stmt}{ex:Expr}{E:XK}{tb:XK->TS}{te:TE}{pos np hpos rpos cpos:Pos}{k:Nat}(hc:X.calm=true)(hg:Gl X x)(hm:X.mg x=some (.ref C0))
  (hb:∀(pl:List (Addr×Obj)) (E:Value->Shared->Prop) (EX:XK),Passes (XC X.prog X.w) (zj X pl E) EX->PSs (zj X pl E) body (tb EX)) (he:∀e E',PE (aeu X e E') ex te) (hT:ak0 X E)
  (hst:X.stack=X.env::X.outer) (hfr:X.env.frame=some X.env.locals) (hdb:(x==("__debug__" : Str))=false:=by decide) :
  PS X (.Try body [.ExceptHandler (some (.Name x np)) none [.Raise (some ex) (some (.Constant .none k cpos)) rpos] hpos] [] [] pos) (a3x X.K C0 X.N.length E tb te):=by
 intro pins s σ H D I h
 obtain⟨EX,h1,h0,h2⟩:=h
 have hh:X.A.handled=none:=I.ok.hd hc
 refine wpAny_Try_except (wpAny_mono (hb pins _ EX ?_ pins s σ H D (amv I) h1) (λf s1 q=>?_) λev s1 q=>q)
 ·intro pins1 σ1 H1 s1 ev s' I1 z
  obtain⟨e0,C,dx,B,H',cx,rfl,hos,hba,F,hg0,hok,c1,c2,c3,c4,c5,c6,c7,hE⟩:=z
  obtain⟨hcx,hEX⟩:cx=some .none/\EX (.ref C) (some dx) H':=hE.elim id λz=>(h0 _ _ _ z).elim
  subst hcx
  obtain⟨mt,q2⟩:=h2 e0 C dx H' hEX hg0
  have I1':=ab5 I1
  have F0:Fly B (X.env::X.outer) e0 (.ref C) (some dx) (some .none) (some .none) s'.heap:=by rw[<-hst];exact F
  have hA:X.A.frames=some (X.env::X.outer):=by rw[<-hst];exact I1'.ok.frames
  have hAm:(X.A.mark (some (.ref e0))).frames=some (X.env::X.outer):=hA
  show wpAny _ _ (noteFrame (.ref e0) X.env) _ _ s'
  refine note hA hfr (.inr rfl) F0 λh2 F2 U2=>land (s:={s' with heap:=h2}) F2 λh3 F3 U3=>?_
  have c2':∀h5,Up s'.heap h5->∀b o,s1.heap.get? b=some o->b∈frs X.stack->∃sl,h5.get? b=some {o with slots:=sl}:=λh5 U b o q m=>by
   obtain⟨sl,z⟩:=c2 b o q m
   have nf:=ae4 I1'.stack m q
   obtain⟨sl2,z2⟩:=U b _ z λvs y=>nf vs y
   exact⟨sl2,z2⟩
  have F3':Fly B X.stack e0 (.ref C) (some dx) (some .none) (some .none) h3:=by rw[hst];exact F3
  have I3:Inv X pins σ1 H' {s' with heap:=h3}:=aew I1' hos hba F3' hg0 hok c1 (c2' h3 (U2.trans U3)) c3 c4 c5 c6 c7
  have I3h:Inv (held X e0) pins σ1 H' {s' with heap:=h3}:=ahf I3
  refine wpAny_handleBy_cons (codeAny_handlers_test (vy I3h hg hm ?_ hdb)) (by intro z;cases z)
  have LT:PySem.W.Looks (model X.prog X.w) h3 (typeOf (.ref e0)) (.ref C):=by
   obtain⟨vs,R,_⟩:=F3.rec_
   obtain⟨o,ho,hoc,_⟩:=R.out
   rw[<-hoc]
   exact(PySem.W.Looks.ld ho).andThen .now
  refine PySem.W.Looks.here (s:={s' with heap:=h3}) (PySem.W.exm_one I3h.kIn LT mt) (codeAny_handlers_suite ?_)
  refine land (s:={s' with heap:=h3}) F3 λh4 F4 U4=>?_
  have F4':Fly B X.stack e0 (.ref C) (some dx) (some .none) (some .none) h4:=by rw[hst];exact F4
  have I4:Inv X pins σ1 H' {s' with heap:=h4}:=aew I1' hos hba F4' hg0 hok c1 (c2' h4 ((U2.trans U3).trans U4)) c3 c4 c5 c6 c7
  have gC:xg e0 C dx h4:=let ⟨vs,R,_,v2,_⟩:=F4.rec_;⟨vs,R,v2⟩
  have I5:Inv X pins σ1 (upd H' e0 (.ext (xg e0 C dx))) {s' with heap:=h4}:=ahe (s:={s' with heap:=h4}) I4 hg0 (λ_ _=>rfl) λ_=>aup gC
  have I6:Inv X pins (List.replicate X.N.length none) (upd H' e0 (.ext (xg e0 C dx))) {s' with heap:=h4}:=I5.weak (by simp[I5.len]) λj v z=>by
   rw[List.getElem?_replicate]at z
   split at z<;>cases z
  have hr:PS (aeu X e0 (notedBy (model X.prog X.w) (X.A.mark (some (.ref e0))) X.env λx s2=>cameBackBy (model X.prog X.w) X.A X.env X.xe x s2)) (.Raise (some ex) (some (.Constant .none k cpos)) rpos) (λ_ σ H=>te σ H λv H1=>∃e C' dx',v=.ref e/\e0≠e/\H1 e0=some (.ext (xg e0 C dx))/\H1 e=some (.ext (mq e C' dx'))/\uy X.K C'/\E (late C') (some dx') (upd (upd H1 e0 (.ext (il e0 C dx))) e (.ext (il e C' dx')))):=by
   intro pins s σ H D I h
   rw[arm_exec_Raise]
   refine wpAny_bind (wpAny_standAt (a0z (K:=X.K) (e0:=e0) rfl (λs Q hq=>wpAny_bind (Constant_none (wpAny_bind (wpAny_standAt (wpAny_pure hq))))) (wpAny_bind (thn (he e0 _ pins s σ H _ I h) λv s1 ⟨y,H1,I1,r1,e,C',dx',ey,ne,g0,ge,xc,hE'⟩=>wpAny_bind (wpAny_standAt (wpAny_pure ?_))))))
   subst ey
   obtain rfl:v=Value.ref e:=r1
   have I1u:=avk hh I1
   obtain⟨ws,R0,w2⟩:=ab2 I1.hok g0
   obtain⟨o0,p0,_,_,d0⟩:=R0.out
   refine⟨e,C',dx',rfl,ne,I1.kIn,xc,ab2 I1.hok ge,⟨o0,ws,p0,d0,w2⟩,λh' vs R hv v1 kp=>?_⟩
   have I1v:Inv X pins σ (upd H1 e0 (.ext (il e0 C dx))) {s1 with heap:=s1.heap}:=ahe I1u g0 (λ_ _=>rfl) λ_=>ag4 ⟨ws,R0⟩
   have ge':(upd H1 e0 (.ext (il e0 C dx))) e=some (.ext (mq e C' dx')):=by rw[ao (Ne.symm ne)];exact ge
   have I2:Inv X pins σ (upd (upd H1 e0 (.ext (il e0 C dx))) e (.ext (il e C' dx'))) {s1 with heap:=h'}:=ahe I1v ge' kp λ_=>ag4 ⟨vs,R⟩
   obtain⟨F,hok2⟩:=amc (s:={s1 with heap:=h'}) I2 ak R hv v1
   have F':Fly (PySem.W.hideAll h' (e::frs X.stack)) (X.env::X.outer) e (.ref C') (some dx') none vs[2]? h':=by rw[<-hst];exact F
   show wpAny _ _ (noteFrame (.ref e) X.env) _ _ {s1 with heap:=h'}
   refine note (s:={s1 with heap:=h'}) hAm hfr (.inl rfl) F' λh5 F5 U5=>ato (s:={s1 with heap:=h5}) hfr F5 λh6 F6 U6=>?_
   exact hT pins σ _ {s1 with heap:=h'} e C' dx' _ _ h6 I2 ak hok2 F6 (U5.trans U6) (by rw[yz];exact hE')
  refine wpAny_mono (bh hr pins {s' with heap:=h4} _ _ {nx:=λ_ _=>False,rt:=λ_ _=>False,bk:=λ_ _=>False,ct:=λ_ _=>False} (avi I6) q2) (λf s6 z=>?_) λ_ _ z=>z
  cases f with
  | next=>obtain⟨_,_,_,y⟩:=z;exact y.elim
  | brk=>obtain⟨_,_,_,y⟩:=z;exact False.elim y
  | cont=>obtain⟨_,_,_,y⟩:=z;exact False.elim y
  | ret u=>obtain⟨_,_,_,_,_,y⟩:=z;exact False.elim y
 ·cases f with
  | next=>exact wpAny_execs_nil (aa1 q)
  | brk=>exact aa1 q
  | cont=>exact aa1 q
  | ret u=>exact aa1 q
end Xc
namespace Hr
open PySem PySem.Spec PyProof.Rows L2 Xc
def top(i:Nat):Stmt:=PySem.Challenge.pw_hallrules_s01_answers.main.body.getD i (.Pass ⟨0,0,0,0⟩)
abbrev afq:Stmt:=inClass (top 1) 0
theorem ao7:cu ["self", "told"] ["self", "told"] (bj afq):=⟨rfl,rfl,rfl,by decide +kernel,rfl,by decide +kernel,by decide +kernel⟩
abbrev aiv:Stmt:=inClass (top 2) 0
theorem a1g:cu ["self"] ["self"] (bj aiv):=⟨rfl,rfl,rfl,by decide +kernel,rfl,by decide +kernel,by decide +kernel⟩
abbrev ait:Stmt:=inClass (top 3) 0
theorem a1e:cu ["self"] ["self"] (bj ait):=⟨rfl,rfl,rfl,by decide +kernel,rfl,by decide +kernel,by decide +kernel⟩
abbrev aja:Stmt:=inClass (top 4) 0
theorem a1p:cu ["self", "kind", "place"] ["self", "kind", "place"] (bj aja):=⟨rfl,rfl,rfl,by decide +kernel,rfl,by decide +kernel,by decide +kernel⟩
abbrev aiu:Stmt:=inClass (top 5) 0
theorem a1f:cu ["self"] ["self"] (bj aiu):=⟨rfl,rfl,rfl,by decide +kernel,rfl,by decide +kernel,by decide +kernel⟩
abbrev ai9:Stmt:=inClass (top 15) 0
theorem a1o:cu ["self", "name", "wide", "high"] ["self", "name", "wide", "high"] (bj ai9):=⟨rfl,rfl,rfl,by decide +kernel,rfl,by decide +kernel,by decide +kernel⟩
abbrev ai0:Stmt:=inClass (top 16) 0
theorem a1j:cu ["self", "codes"] ["self", "codes"] (bj ai0):=⟨rfl,rfl,rfl,by decide +kernel,rfl,by decide +kernel,by decide +kernel⟩
abbrev ai1:Stmt:=inClass (top 16) 1
theorem a1k:cu ["self"] ["self"] (bj ai1):=⟨rfl,rfl,rfl,by decide +kernel,rfl,by decide +kernel,by decide +kernel⟩
abbrev afp:Stmt:=inClass (top 16) 2
theorem ao3:cu ["self", "words", "left", "offset", "byte", "k"] ["self", "words"] (bj afp):=⟨rfl,rfl,rfl,by decide +kernel,rfl,by decide +kernel,by decide +kernel⟩
abbrev ai7:Stmt:=inClass (top 16) 3
theorem a1m:cu ["self", "word"] ["self", "word"] (bj ai7):=⟨rfl,rfl,rfl,by decide +kernel,rfl,by decide +kernel,by decide +kernel⟩
abbrev ai6:Stmt:=inClass (top 16) 4
theorem ao6:cu ["self", "name", "byte"] ["self"] (bj ai6):=⟨rfl,rfl,rfl,by decide +kernel,rfl,by decide +kernel,by decide +kernel⟩
abbrev ai4:Stmt:=inClass (top 16) 5
theorem ao4:cu ["self", "limit", "longer"] ["self"] (bj ai4):=⟨rfl,rfl,rfl,by decide +kernel,rfl,by decide +kernel,by decide +kernel⟩
abbrev ai2:Stmt:=inClass (top 16) 6
theorem ao2:cu ["self", "wide", "high", "signs", "board", "y", "x", "place"] ["self", "wide", "high", "signs"] (bj ai2):=⟨rfl,rfl,rfl,by decide +kernel,rfl,by decide +kernel,by decide +kernel⟩
abbrev ai5:Stmt:=inClass (top 16) 7
theorem ao5:cu ["self", "marks", "head", "choices", "words", "place"] ["self"] (bj ai5):=⟨rfl,rfl,rfl,by decide +kernel,rfl,by decide +kernel,by decide +kernel⟩
abbrev ai3:Stmt:=inClass (top 16) 8
theorem a1l:cu ["self"] ["self"] (bj ai3):=⟨rfl,rfl,rfl,by decide +kernel,rfl,by decide +kernel,by decide +kernel⟩
abbrev ajv:Stmt:=top 17
theorem a1y:cu ["number"] ["number"] (bj ajv):=⟨rfl,rfl,rfl,by decide +kernel,rfl,by decide +kernel,by decide +kernel⟩
abbrev aju:Stmt:=top 18
theorem a1x:cu ["byte"] ["byte"] (bj aju):=⟨rfl,rfl,rfl,by decide +kernel,rfl,by decide +kernel,by decide +kernel⟩
abbrev ajt:Stmt:=top 19
theorem a1w:cu ["byte"] ["byte"] (bj ajt):=⟨rfl,rfl,rfl,by decide +kernel,rfl,by decide +kernel,by decide +kernel⟩
abbrev aj0:Stmt:=top 20
theorem apy:cu ["reader", "name", "wide", "high"] ["reader"] (bj aj0):=⟨rfl,rfl,rfl,by decide +kernel,rfl,by decide +kernel,by decide +kernel⟩
abbrev aj1:Stmt:=top 21
theorem apz:cu ["codes", "reader", "sheet"] ["codes"] (bj aj1):=⟨rfl,rfl,rfl,by decide +kernel,rfl,by decide +kernel,by decide +kernel⟩
abbrev afy:Stmt:=top 29
theorem apx:cu ["board", "sign", "place", "cell", "found"] ["board", "sign"] (bj afy):=⟨rfl,rfl,rfl,by decide +kernel,rfl,by decide +kernel,by decide +kernel⟩
abbrev afu:Stmt:=top 30
theorem apk:cu ["board", "sign", "place", "cell", "found"] ["board", "sign"] (bj afu):=⟨rfl,rfl,rfl,by decide +kernel,rfl,by decide +kernel,by decide +kernel⟩
abbrev afx:Stmt:=top 31
theorem apv:cu ["board", "sign", "kind", "place"] ["board", "sign", "kind"] (bj afx):=⟨rfl,rfl,rfl,by decide +kernel,rfl,by decide +kernel,by decide +kernel⟩
abbrev aj4:Stmt:=top 32
theorem a2b:cu ["piece", "kind"] ["piece", "kind"] (bj aj4):=⟨rfl,rfl,rfl,by decide +kernel,rfl,by decide +kernel,by decide +kernel⟩
abbrev aj9:Stmt:=top 33
theorem ap5:cu ["sheet", "found", "under", "above"] ["sheet"] (bj aj9):=⟨rfl,rfl,rfl,by decide +kernel,rfl,by decide +kernel,by decide +kernel⟩
abbrev ajz:Stmt:=top 34
theorem apw:cu ["sheet", "cell", "x", "y"] ["sheet", "cell"] (bj ajz):=⟨rfl,rfl,rfl,by decide +kernel,rfl,by decide +kernel,by decide +kernel⟩
abbrev ajq:Stmt:=top 35
theorem apo:cu ["sheet", "place", "cell", "piece"] ["sheet"] (bj ajq):=⟨rfl,rfl,rfl,by decide +kernel,rfl,by decide +kernel,by decide +kernel⟩
abbrev aj8:Stmt:=top 36
theorem ap4:cu ["sheet", "place", "wrong"] ["sheet"] (bj aj8):=⟨rfl,rfl,rfl,by decide +kernel,rfl,by decide +kernel,by decide +kernel⟩
abbrev aj2:Stmt:=top 37
theorem a2a:cu ["sheet"] ["sheet"] (bj aj2):=⟨rfl,rfl,rfl,by decide +kernel,rfl,by decide +kernel,by decide +kernel⟩
abbrev ajw:Stmt:=top 38
theorem a1z:cu ["sheet"] ["sheet"] (bj ajw):=⟨rfl,rfl,rfl,by decide +kernel,rfl,by decide +kernel,by decide +kernel⟩
abbrev ajn:Stmt:=top 39
theorem apl:cu ["sheet", "found", "first"] ["sheet"] (bj ajn):=⟨rfl,rfl,rfl,by decide +kernel,rfl,by decide +kernel,by decide +kernel⟩
abbrev ai8:Stmt:=inClass (top 43) 0
theorem a1n:cu ["self", "text", "name", "facts", "cells", "ground"] ["self", "text", "name", "facts", "cells", "ground"] (bj ai8):=⟨rfl,rfl,rfl,by decide +kernel,rfl,by decide +kernel,by decide +kernel⟩
abbrev afv:Stmt:=top 44
theorem apn:cu ["sheet", "facts", "place", "number"] ["sheet"] (bj afv):=⟨rfl,rfl,rfl,by decide +kernel,rfl,by decide +kernel,by decide +kernel⟩
abbrev ad1:Stmt:=top 45
theorem apt:cu ["sheet", "lists", "sign"] ["sheet"] (bj ad1):=⟨rfl,rfl,rfl,by decide +kernel,rfl,by decide +kernel,by decide +kernel⟩
abbrev afz:Stmt:=top 46
theorem ap0:cu ["codes", "sheet", "ground", "place", "cell", "sign"] ["codes"] (bj afz):=⟨rfl,rfl,rfl,by decide +kernel,rfl,by decide +kernel,by decide +kernel⟩
abbrev aj5:Stmt:=top 50
theorem ap2:cu ["wide", "high", "turn", "cell", "x", "y", "spot", "sides", "quarter"] ["wide", "high", "turn", "cell"] (bj aj5):=⟨rfl,rfl,rfl,by decide +kernel,rfl,by decide +kernel,by decide +kernel⟩
abbrev ajo:Stmt:=top 51
theorem apm:cu ["turn", "later", "quarters", "mirrored"] ["turn", "later"] (bj ajo):=⟨rfl,rfl,rfl,by decide +kernel,rfl,by decide +kernel,by decide +kernel⟩
abbrev aj6:Stmt:=top 52
theorem a2c:cu ["turn"] ["turn"] (bj aj6):=⟨rfl,rfl,rfl,by decide +kernel,rfl,by decide +kernel,by decide +kernel⟩
abbrev ajs:Stmt:=top 53
theorem a1v:cu ["wide", "high", "cell"] ["wide", "high", "cell"] (bj ajs):=⟨rfl,rfl,rfl,by decide +kernel,rfl,by decide +kernel,by decide +kernel⟩
abbrev ajr:Stmt:=top 54
theorem apq:cu ["wide", "high", "ground", "turn", "cell"] ["wide", "high", "ground", "turn"] (bj ajr):=⟨rfl,rfl,rfl,by decide +kernel,rfl,by decide +kernel,by decide +kernel⟩
abbrev afw:Stmt:=top 55
theorem apr:cu ["wide", "high", "ground", "turn"] ["wide", "high", "ground"] (bj afw):=⟨rfl,rfl,rfl,by decide +kernel,rfl,by decide +kernel,by decide +kernel⟩
abbrev ajb:Stmt:=top 63
theorem ao8:cu ["every", "head", "choices"] [] (bj ajb):=⟨rfl,rfl,rfl,by decide +kernel,rfl,by decide +kernel,by decide +kernel⟩
abbrev aft:Stmt:=top 64
theorem apj:cu ["facts", "number", "words"] ["facts"] (bj aft):=⟨rfl,rfl,rfl,by decide +kernel,rfl,by decide +kernel,by decide +kernel⟩
abbrev aj3:Stmt:=top 65
theorem ap1:cu ["lists", "signs", "board", "cells", "sign", "cell"] ["lists", "signs"] (bj aj3):=⟨rfl,rfl,rfl,by decide +kernel,rfl,by decide +kernel,by decide +kernel⟩
abbrev ajm:Stmt:=top 66
theorem aph:cu ["facts", "board", "text", "y", "x"] ["facts", "board"] (bj ajm):=⟨rfl,rfl,rfl,by decide +kernel,rfl,by decide +kernel,by decide +kernel⟩
abbrev ajx:Stmt:=top 67
theorem aps:cu ["facts", "text", "at", "head", "choices", "words"] ["facts"] (bj ajx):=⟨rfl,rfl,rfl,by decide +kernel,rfl,by decide +kernel,by decide +kernel⟩
abbrev afs:Stmt:=top 68
theorem api:cu ["text", "sign"] ["text"] (bj afs):=⟨rfl,rfl,rfl,by decide +kernel,rfl,by decide +kernel,by decide +kernel⟩
abbrev aj7:Stmt:=top 69
theorem ap3:cu ["name", "facts", "cells", "wide", "high", "limit", "ground", "start", "text"] ["name", "facts", "cells"] (bj aj7):=⟨rfl,rfl,rfl,by decide +kernel,rfl,by decide +kernel,by decide +kernel⟩
abbrev ajy:Stmt:=top 70
theorem apu:cu ["name", "facts", "cells", "made"] ["name", "facts", "cells"] (bj ajy):=⟨rfl,rfl,rfl,by decide +kernel,rfl,by decide +kernel,by decide +kernel⟩
abbrev air:Stmt:=inClass (top 73) 0
theorem a1c:cu ["self"] ["self"] (bj air):=⟨rfl,rfl,rfl,by decide +kernel,rfl,by decide +kernel,by decide +kernel⟩
abbrev ais:Stmt:=inClass (top 73) 1
theorem a1d:cu ["self"] ["self"] (bj ais):=⟨rfl,rfl,rfl,by decide +kernel,rfl,by decide +kernel,by decide +kernel⟩
abbrev aix:Stmt:=inClass (top 74) 0
theorem a1i:cu ["self", "calls"] ["self", "calls"] (bj aix):=⟨rfl,rfl,rfl,by decide +kernel,rfl,by decide +kernel,by decide +kernel⟩
abbrev aiw:Stmt:=inClass (top 74) 1
theorem a1h:cu ["self"] ["self"] (bj aiw):=⟨rfl,rfl,rfl,by decide +kernel,rfl,by decide +kernel,by decide +kernel⟩
abbrev aiy:Stmt:=inClass (top 74) 2
theorem ao0:cu ["self", "number"] ["self"] (bj aiy):=⟨rfl,rfl,rfl,by decide +kernel,rfl,by decide +kernel,by decide +kernel⟩
abbrev aiz:Stmt:=inClass (top 74) 3
theorem ao1:cu ["self", "length", "row"] ["self"] (bj aiz):=⟨rfl,rfl,rfl,by decide +kernel,rfl,by decide +kernel,by decide +kernel⟩
abbrev ajp:Stmt:=top 75
theorem a1u:cu ["row"] ["row"] (bj ajp):=⟨rfl,rfl,rfl,by decide +kernel,rfl,by decide +kernel,by decide +kernel⟩
abbrev ajh:Stmt:=top 76
theorem a1s:cu ["hall", "queue"] ["hall", "queue"] (bj ajh):=⟨rfl,rfl,rfl,by decide +kernel,rfl,by decide +kernel,by decide +kernel⟩
abbrev ajg:Stmt:=top 77
theorem a1r:cu ["hall", "queue"] ["hall", "queue"] (bj ajg):=⟨rfl,rfl,rfl,by decide +kernel,rfl,by decide +kernel,by decide +kernel⟩
abbrev ajf:Stmt:=top 78
theorem a1q:cu ["hall", "queue"] ["hall", "queue"] (bj ajf):=⟨rfl,rfl,rfl,by decide +kernel,rfl,by decide +kernel,by decide +kernel⟩
abbrev aje:Stmt:=top 79
theorem apb:cu ["hall", "queue", "k", "cells"] ["hall", "queue"] (bj aje):=⟨rfl,rfl,rfl,by decide +kernel,rfl,by decide +kernel,by decide +kernel⟩
abbrev ajk:Stmt:=top 80
theorem ape:cu ["hall", "queue", "known"] ["hall", "queue"] (bj ajk):=⟨rfl,rfl,rfl,by decide +kernel,rfl,by decide +kernel,by decide +kernel⟩
abbrev aji:Stmt:=top 81
theorem a1t:cu ["hall", "queue"] ["hall", "queue"] (bj aji):=⟨rfl,rfl,rfl,by decide +kernel,rfl,by decide +kernel,by decide +kernel⟩
abbrev afr:Stmt:=top 82
theorem apc:cu ["hall", "queue", "name", "facts", "cells", "sign"] ["hall", "queue"] (bj afr):=⟨rfl,rfl,rfl,by decide +kernel,rfl,by decide +kernel,by decide +kernel⟩
abbrev ajj:Stmt:=top 83
theorem apd:cu ["hall", "queue", "wide", "high", "turn", "cell"] ["hall", "queue"] (bj ajj):=⟨rfl,rfl,rfl,by decide +kernel,rfl,by decide +kernel,by decide +kernel⟩
abbrev ajl:Stmt:=top 84
theorem apf:cu ["hall", "queue", "turn", "later"] ["hall", "queue"] (bj ajl):=⟨rfl,rfl,rfl,by decide +kernel,rfl,by decide +kernel,by decide +kernel⟩
abbrev ajd:Stmt:=top 85
theorem apa:cu ["hall", "queue", "turn"] ["hall", "queue"] (bj ajd):=⟨rfl,rfl,rfl,by decide +kernel,rfl,by decide +kernel,by decide +kernel⟩
abbrev ajc:Stmt:=top 87
theorem ao9:cu ["hall", "queue", "number", "refusal"] ["hall", "queue"] (bj ajc):=⟨rfl,rfl,rfl,by decide +kernel,rfl,by decide +kernel,by decide +kernel⟩
abbrev abo:Stmt:=top 88
theorem apg:cu ["calls", "hall", "queue", "told", "numbers"] ["calls"] (bj abo):=⟨rfl,rfl,rfl,by decide +kernel,rfl,by decide +kernel,by decide +kernel⟩
end Hr
namespace Hm
open Tafl
abbrev wd(ws:List Bytes)(i:Nat):Bytes:=ws.getD i []
def restOf(ws:List Bytes)(idx:List Nat)(k:Nat):List (Nat×Bytes):=idx.map λi=>(i,(wd ws i).drop k)
def ie(ws:List Bytes):List (Nat×Bytes):=(List.range ws.length).map λi=>(i,wd ws i)
theorem ae5(ws:List Bytes):ie ws=restOf ws (List.range ws.length) 0:=by
 unfold ie restOf
 refine List.map_congr_left λi _=>?_
 rw[List.drop_zero]
structure PF(ws:List Bytes):Prop where
 pf:∀i j,i<ws.length->j<ws.length->i≠j->¬(wd ws i <+: wd ws j)
 sh:∀i,i<ws.length->(wd ws i).length<16
structure xj(ws:List Bytes)(idx:List Nat)(k:Nat):Prop where
 lt:∀i∈idx,i<ws.length
 le:∀i∈idx,k<=(wd ws i).length
 same:∀i∈idx,∀j∈idx,(wd ws i).take k=(wd ws j).take k
theorem awd(ws:List Bytes):xj ws (List.range ws.length) 0:=⟨λi h=>List.mem_range.mp h,λ_ _=>Nat.zero_le _,λ_ _ _ _=>by rw[List.take_zero,List.take_zero]⟩
theorem longer{ws:List Bytes}{i0:Nat}{r:List Nat}{k:Nat}(pf:PF ws)(ok:xj ws (i0::r) k)(h:k<(wd ws i0).length):∀i∈i0::r,k<(wd ws i).length:=λi hi=>by
 refine Nat.lt_of_le_of_ne (ok.le i hi) λe=>?_
 by_cases hii:i=i0
 ·rw[hii]at e
  omega
 ·refine pf.pf i i0 (ok.lt i hi) (ok.lt i0 (List.mem_cons_self ..)) hii ?_
  have e1:=ok.same i hi i0 (List.mem_cons_self ..)
  rw[e,List.take_length]at e1
  rw[e1]
  exact List.take_prefix _ _
theorem ae6{ws:List Bytes}{i0:Nat}{r:List Nat}{k f:Nat}{c:Cur}(ok:xj ws (i0::r) k)(h:¬k<(wd ws i0).length):oneOf (f+1) (restOf ws (i0::r) k) c=.ok (i0,c):=by
 have e:(wd ws i0).drop k=[]:=List.drop_eq_nil_of_le (by omega)
 unfold oneOf restOf
 rw[List.map_cons,List.find?_cons]
 simp only[e,List.isEmpty_nil]
theorem anm{ws:List Bytes}{idx:List Nat}{k:Nat}(hl:∀i∈idx,k<(wd ws i).length):(restOf ws idx k).find? (λ(w:Nat×Bytes)=>w.2.isEmpty)=none:=by
 rw[List.find?_eq_none]
 intro x hx
 obtain⟨i,hi,rfl⟩:=List.mem_map.mp hx
 have:=hl i hi
 simp only[List.isEmpty_iff,List.drop_eq_nil_iff,Bool.not_eq_true]
 simpa using this
theorem ae7{ws:List Bytes}{idx:List Nat}{k f:Nat}{c:Cur}(hl:∀i∈idx,k<(wd ws i).length)(hn:c.next=none):oneOf (f+1) (restOf ws idx k) c=.error c.at_:=by
 unfold oneOf
 rw[anm hl,hn]
def keep(ws:List Bytes)(idx:List Nat)(k:Nat)(x:UInt8):List Nat:=idx.filter λi=>(wd ws i)[k]?==some x
theorem aoq{ws:List Bytes}{k:Nat}{x:UInt8}:∀{idx:List Nat},(∀i∈idx,k<(wd ws i).length) ->
  (restOf ws idx k).filterMap (λ(w:Nat×Bytes)=>if w.2.head? = some x then some (w.1,w.2.drop 1)else none)=restOf ws (keep ws idx k x) (k+1)
 | [],_=>rfl
 | i::r,hl=>by
  have ih:=aoq (x:=x) (idx:=r) λj hj=>hl j (List.mem_cons_of_mem _ hj)
  have e1:((wd ws i).drop k).head? = (wd ws i)[k]? := by rw[List.head?_drop]
  have e2:((wd ws i).drop k).drop 1=(wd ws i).drop (k+1):=by rw[List.drop_drop]
  unfold restOf at ih ⊢
  unfold keep at ih ⊢
  rw[List.map_cons,List.filterMap_cons,List.filter_cons]
  simp only[e1,e2]
  by_cases h:(wd ws i)[k]? = some x
  ·rw[if_pos h,if_pos (by rw[h];simp),List.map_cons,ih]
  ·rw[if_neg h,if_neg (by simpa using h),ih]
theorem acf{ws:List Bytes}{idx:List Nat}{k f:Nat}{c:Cur}{x:UInt8}(hl:∀i∈idx,k<(wd ws i).length)(hn:c.next=some x):
  oneOf (f+1) (restOf ws idx k) c=if keep ws idx k x=[] then .error c.at_ else oneOf f (restOf ws (keep ws idx k x) (k+1)) c.on:=by
 have e:=aoq (x:=x) hl
 rw[oneOf,anm hl,hn]
 simp only[e]
 by_cases h:keep ws idx k x=[]
 ·rw[if_pos h,h]
  rfl
 ·rw[if_neg h,if_neg]
  rw[List.isEmpty_iff]
  intro q
  exact h (List.map_eq_nil_iff.mp q)
theorem avv{ws:List Bytes}{idx:List Nat}{k:Nat}{x:UInt8}(ok:xj ws idx k):xj ws (keep ws idx k x) (k+1):=by
 have at_:∀i∈keep ws idx k x,i∈idx/\(wd ws i)[k]? = some x:=λi hi=>by
  obtain⟨h1,h2⟩:=List.mem_filter.mp hi
  exact⟨h1,by simpa using h2⟩
 have tk:∀i∈keep ws idx k x,(wd ws i).take (k+1)=(wd ws i).take k++[x]:=λi hi=>by
  obtain⟨_,h2⟩:=at_ i hi
  obtain⟨h3,h4⟩:=List.getElem?_eq_some_iff.mp h2
  rw[List.take_succ,h2]
  rfl
 refine⟨λi hi=>ok.lt i (at_ i hi).1,λi hi=>?_,λi hi j hj=>?_⟩
 ·have:=(List.getElem?_eq_some_iff.mp (at_ i hi).2).1
  omega
 ·rw[tk i hi,tk j hj,ok.same i (at_ i hi).1 j (at_ j hj).1]
def cur(b:Bytes)(p:Nat):Cur:=⟨b.drop p,p⟩
theorem o5(b:Bytes)(p:Nat):(cur b p).next=b[p]? := by unfold cur Cur.next;rw[List.head?_drop]
theorem vq(b:Bytes)(p:Nat):(cur b p).on=cur b (p+1):=by unfold cur Cur.on;rw[List.drop_drop]
theorem anu:∀(w:Bytes) (f:Nat) (c:Cur),w.length<f->oneOf f [(0,w)] c=match lit w c with | .ok d=>.ok (0,d) | .error q=>.error q
 | [],0,c,h=>by simp at h
 | [],f+1,c,h=>rfl
 | x::r,0,c,h=>by simp at h
 | x::r,f+1,c,h=>by
  have ih:=anu r f c.on (by simpa using h)
  unfold oneOf lit
  simp only[List.find?_cons,List.isEmpty_cons,List.find?_nil]
  cases hn:c.next with
  | none=>simp
  | some y =>
   by_cases hy:x=y
   ·subst hy
    simpa using ih
   ·have hy':¬some y=some x:=λz=>hy (Option.some.inj z).symm
    simp[hy,hy']
theorem axe(w:Bytes):ie [w]=[(0,w)]:=rfl
theorem a0b{w:Bytes}(h:w.length<16):PF [w]:=⟨λi j hi hj n=>by simp at hi hj;omega,λi hi=>by
 have:i=0:=by simpa using hi
 subst this
 exact h⟩
theorem aca:∀(w:Bytes) (b:Bytes) (p:Nat) (d:Cur),lit w (cur b p)=.ok d->d=cur b (p+w.length)
 | [],b,p,d,h=>by
  unfold lit at h
  cases h
  rfl
 | x::r,b,p,d,h=>by
  unfold lit at h
  split at h
  ·rw[vq]at h
   have:=aca r b (p+1) d h
   rw[this,List.length_cons]
   congr 1
   omega
  ·cases h
def ym(i:Int):Bool:=(decide (65<=i)&&decide (i<=90))||(decide (97<=i)&&decide (i<=122))
def aah(i:Int):Bool:=decide (48<=i)&&decide (i<=57)
theorem awg(x:UInt8):ym (x.toNat:Int)=isLetter x:=by
 unfold ym isLetter
 congr 1<;>congr 1<;>exact decide_eq_decide.mpr (by omega)
theorem aue(x:UInt8):aah (x.toNat:Int)=isDigit x:=by
 unfold aah isDigit
 congr 1<;>exact decide_eq_decide.mpr (by omega)
def abw(x:UInt8):Bool:=isLetter x||isDigit x
theorem a2x{q:UInt8->Bool}{n:Nat}{b:Bytes}{p:Nat}{x:UInt8}(e:b[p]? = some x)(h:q x=true):some_ q (n+1) (cur b p)=(x::(some_ q n (cur b (p+1))).1,(some_ q n (cur b (p+1))).2):=by
 rw[some_,o5,e]
 simp only[h,if_true,vq]
theorem a2y{q:UInt8->Bool}{n:Nat}{b:Bytes}{p:Nat}(h:∀x,b[p]? = some x->q x=false):some_ q n (cur b p)=([],cur b p):=by
 cases n with
 | zero=>rfl
 | succ n =>
  rw[some_,o5]
  cases e:b[p]? with
  | none=>rfl
  | some x=>simp only[h x e,Bool.false_eq_true,if_false]
theorem ak7(d:Nat)(h:0<d):begins 1 60000 d=decide (d<=60000):=by
 unfold begins
 by_cases hd:d<=60000
 ·rw[decide_eq_true hd,List.any_eq_true]
  exact⟨0,by decide,by simp;omega⟩
 ·rw[decide_eq_false hd,List.any_eq_false]
  intro k hk
  have hp:0<10 ^ k:=Nat.pow_pos (by decide)
  have:d<=d*10 ^ k:=Nat.le_mul_of_pos_right d hp
  simp
  intro hh
  omega
structure yf(b:Bytes)(p k:Nat):Prop where
 le:k<=16
 len:((b.drop p).take k).length=k
 fst:k=0\/∃x,b[p]? = some x/\isLetter x=true
 eq:some_ abw 16 (cur b p)=((b.drop p).take k++(some_ abw (16-k) (cur b (p+k))).1,(some_ abw (16-k) (cur b (p+k))).2)
theorem nm0(b:Bytes)(p:Nat):yf b p 0:=⟨by decide,rfl,.inl rfl,rfl⟩
theorem ahv(b:Bytes)(p:Nat):nameIn (cur b p)=match b[p]? with | some x=>if isLetter x=true then .ok (some_ abw 16 (cur b p))else .error p | none=>.error p:=by
 unfold nameIn
 rw[o5]
 rfl
theorem akk{b:Bytes}{p k:Nat}{x:UInt8}(e:b[p+k]? = some x):(b.drop p).take (k+1)=(b.drop p).take k++[x]:=by
 rw[List.take_succ,List.getElem?_drop,e]
 rfl
theorem yf.step{b:Bytes}{p k:Nat}{x:UInt8}(h:yf b p k)(hk:k<16)(e:b[p+k]? = some x)(hx:isLetter x=true\/(0<k/\isDigit x=true)):yf b p (k+1):=by
 have hw:abw x=true:=by
  unfold abw
  rcases hx with hx | hx
  ·rw[hx];rfl
  ·rw[hx.2];simp
 refine⟨hk,?_,.inr ?_,?_⟩
 ·rw[akk e,List.length_append,h.len]
  rfl
 ·rcases h.fst with rfl | h1
  ·rcases hx with hx | hx
   ·exact⟨x,e,hx⟩
   ·omega
  ·exact h1
 ·have e1:16-k=(16-(k+1))+1:=by omega
  rw[h.eq,e1,a2x e hw,akk e,List.append_assoc]
  rfl
theorem yf.full{b:Bytes}{p:Nat}(h:yf b p 16):nameIn (cur b p)=.ok ((b.drop p).take 16,cur b (p+16)):=by
 rcases h.fst with h0 | ⟨x,e,hx⟩
 ·cases h0
 ·rw[ahv,e]
  simp only[hx,if_true]
  rw[h.eq]
  simp[some_]
theorem yf.stop{b:Bytes}{p k:Nat}(h:yf b p k)(hk:0<k)(hs:∀x,b[p+k]? = some x->isLetter x=false/\isDigit x=false):nameIn (cur b p)=.ok ((b.drop p).take k,cur b (p+k)):=by
 rcases h.fst with h0 | ⟨x,e,hx⟩
 ·omega
 ·rw[ahv,e]
  simp only[hx,if_true]
  rw[h.eq,a2y (λy hy=>by unfold abw;rw[(hs y hy).1,(hs y hy).2];rfl),List.append_nil]
theorem aw2{b:Bytes}{p:Nat}(hs:∀x,b[p]? = some x->isLetter x=false):nameIn (cur b p)=.error p:=by
 rw[ahv]
 cases e:b[p]? with
 | none=>rfl
 | some x=>simp only[hs x e,Bool.false_eq_true,if_false]
structure aaa(b:Bytes)(p k d:Nat):Prop where
 k5:k<=5
 z:k=0->d=0
 big:0<k->10 ^ (k-1)<=d
 le:d<=60000
 eq:number 1 60000 (cur b p)=numberFrom 1 60000 (6-k) d (cur b (p+k))
theorem lm0(b:Bytes)(p:Nat):aaa b p 0 0:=⟨by decide,λ_=>rfl,λh=>absurd h (by decide),by decide,rfl⟩
theorem anr{b:Bytes}{p f d:Nat}:numberFrom 1 60000 (f+1) d (cur b p)=match b[p]? with
  | some x=>if isDigit x=true/\0<10*d+(x.toNat-48)/\begins 1 60000 (10*d+(x.toNat-48))=true then numberFrom 1 60000 f (10*d+(x.toNat-48)) (cur b (p+1))else if 1<=d/\d<=60000 then .ok (d,cur b p)else .error p
  | none=>if 1<=d/\d<=60000 then .ok (d,cur b p)else .error p:=by
 rw[numberFrom,o5,vq]
 rfl
theorem aaa.step{b:Bytes}{p k d:Nat}{x:UInt8}(h:aaa b p k d)(e:b[p+k]? = some x)(hx:isDigit x=true)(h0:0<10*d+(x.toNat-48))(h1:10*d+(x.toNat-48)<=60000):aaa b p (k+1) (10*d+(x.toNat-48)):=by
 have hk:k<5:=by
  by_cases hk0:k=0
  ·omega
  ·have hb:=h.big (by omega)
   have hk5:=h.k5
   have:¬k=5:=λz=>by
    subst z
    have:(10:Nat) ^ (5-1)=10000:=by decide
    omega
   omega
 refine⟨by omega,λz=>by omega,λ_=>?_,h1,?_⟩
 ·by_cases hk0:k=0
  ·subst hk0
   show 10 ^ (0+1-1)<=_
   have:(10:Nat) ^ (0+1-1)=1:=by decide
   omega
  ·have hb:=h.big (by omega)
   have e2:(10:Nat) ^ (k+1-1)=10*10 ^ (k-1):=by
    have:k+1-1=(k-1)+1:=by omega
    rw[this,Nat.pow_succ,Nat.mul_comm]
   rw[e2]
   omega
 ·have e1:6-k=(6-(k+1))+1:=by omega
  rw[h.eq,e1,anr,e]
  dsimp only
  rw[if_pos ⟨hx,h0,by rw[ak7 _ h0];exact decide_eq_true h1⟩]
  rfl
theorem aaa.stop{b:Bytes}{p k d:Nat}(h:aaa b p k d)(hs:∀x,b[p+k]? = some x->isDigit x=true->10*d+(x.toNat-48)=0\/60000<10*d+(x.toNat-48)):
  number 1 60000 (cur b p)=if d=0 then .error (p+k)else .ok (d,cur b (p+k)):=by
 have hk5:=h.k5
 have hle:=h.le
 have e1:6-k=(6-(k+1))+1:=by omega
 have fin:(if 1<=d/\d<=60000 then Except.ok (d,cur b (p+k))else Except.error (p+k):Except Nat (Nat×Cur))=if d=0 then .error (p+k)else .ok (d,cur b (p+k)):=by
  by_cases hd:d=0
  ·rw[if_pos hd,if_neg (by omega)]
  ·rw[if_neg hd,if_pos (by omega)]
 rw[h.eq,e1,anr]
 cases e:b[p+k]? with
 | none=>exact fin
 | some x =>
  dsimp only
  rw[if_neg]
  ·exact fin
  ·rintro⟨a1,a2,a3⟩
   rw[ak7 _ a2]at a3
   have a3:=of_decide_eq_true a3
   rcases hs x e a1 with z | z<;>omega
abbrev Sq:=Nat×Nat×UInt8
def oh(signs:Bytes)(y:Nat):Nat->Nat->Cur->Except Nat (List Sq×Cur)
 | _,0,c=>.ok ([],c)
 | x,n+1,c=>match c.next with
  | some s=>if s∈signs then(match oh signs y (x+1) n c.on with | .ok (l,d)=>.ok ((c.at_,13*y+x,s)::l,d) | .error q=>.error q)else .error c.at_
  | none=>.error c.at_
def iz(signs:Bytes)(wide:Nat):Nat->Cur->Except Nat (List Sq×Cur)
 | 0,c=>.ok ([],c)
 | h+1,c=>match oh signs h 0 wide c with
  | .error q=>.error q
  | .ok (l,d)=>match lit [10] d with
   | .error q=>.error q
   | .ok e=>match iz signs wide h e with
    | .error q=>.error q
    | .ok (m,g)=>.ok (l++m,g)
def pre{α:Type}(l:List α):Except Nat (List α×Cur)->Except Nat (List α×Cur)
 | .ok (m,c)=>.ok (l++m,c)
 | .error q=>.error q
theorem afh{α:Type}(r:Except Nat (List α×Cur)):pre [] r=r:=by
 cases r<;>rfl
theorem afi{α:Type}(l m:List α)(r:Except Nat (List α×Cur)):pre l (pre m r)=pre (l++m) r:=by
 cases r with
 | error q=>rfl
 | ok v =>
  obtain⟨v1,v2⟩:=v
  show Except.ok (l++(m++v1),v2)=Except.ok ((l++m)++v1,v2)
  rw[List.append_assoc]
theorem al9:∀(n i:Nat),i<n->(List.range n).filter (λj=>j==i)=[i]
 | 0,i,h=>by omega
 | n+1,i,h=>by
  rw[List.range_succ,List.filter_append]
  by_cases hi:i=n
  ·subst hi
   rw[List.filter_eq_nil_iff.mpr (λj hj=>by have:=List.mem_range.mp hj;simp;omega)]
   simp
  ·rw[al9 n i (by omega)]
   have:(n==i)=false:=by simpa using λz=>hi z.symm
   simp[this]
theorem aow{signs:Bytes}{y x n p:Nat}{b:Bytes}{s:UInt8}(e:b[p]? = some s)(h:s∈signs):oh signs y x (n+1) (cur b p)=pre [(p,13*y+x,s)] (oh signs y (x+1) n (cur b (p+1))):=by
 rw[oh,o5,e]
 dsimp only
 rw[if_pos h,vq]
 cases oh signs y (x+1) n (cur b (p+1))<;>rfl
theorem aip{signs:Bytes}{y x n p:Nat}{b:Bytes}(h:∀s,b[p]? = some s->s∉signs):oh signs y x (n+1) (cur b p)=.error p:=by
 rw[oh,o5]
 cases e:b[p]? with
 | none=>rfl
 | some s =>
  dsimp only
  rw[if_neg (h s e)]
  rfl
theorem zy(signs:Bytes)(i:Nat)(h:i<signs.length):wd (signs.map λc=>[c]) i=[signs[i]]:=by
 simp[wd,List.getD,h]
theorem a0c{signs:Bytes}(nd:signs.Nodup):PF (signs.map λc=>[c]):=by
 refine⟨λi j hi hj n=>?_,λi hi=>?_⟩
 ·rw[List.length_map]at hi hj
  rw[zy signs i hi,zy signs j hj]
  intro z
  have z2:signs[i]=signs[j]:=by simpa using z
  exact n ((List.getElem_inj nd).mp z2)
 ·rw[List.length_map]at hi
  rw[zy signs i hi]
  show 1<16
  decide
theorem one_sign{signs:Bytes}{b:Bytes}{p i:Nat}(nd:signs.Nodup)(hi:i<signs.length)(e:b[p]? = some signs[i]):oneOf 16 (ie (signs.map λc=>[c])) (cur b p)=.ok (i,cur b (p+1)):=by
 have long:∀j∈List.range (signs.map λc=>[c]).length,0<(wd (signs.map λc=>[c]) j).length:=λj hj=>by
  have hj:j<signs.length:=by simpa using hj
  rw[zy signs j hj]
  exact Nat.succ_pos _
 have ek:keep (signs.map λc=>[c]) (List.range (signs.map λc=>[c]).length) 0 signs[i]=[i]:=by
  have h1:∀j∈List.range signs.length,(λj=>(wd (signs.map λc=>[c]) j)[0]?==some signs[i]) j=(j==i):=λj hj=>by
   have hj:j<signs.length:=List.mem_range.mp hj
   dsimp only
   rw[zy signs j hj]
   show(some signs[j]==some signs[i])=(j==i)
   by_cases hji:j=i
   ·subst hji
    simp
   ·have:signs[j]≠signs[i]:=λz=>hji ((List.getElem_inj nd).mp z)
    rw[show(some signs[j]==some signs[i])=false by simpa using this,show(j==i)=false by simpa using hji]
  unfold keep
  rw[List.length_map,List.filter_congr h1]
  exact al9 _ _ hi
 rw[ae5,acf long (by rw[o5];exact e),ek,if_neg (by simp),vq]
 refine ae6 ⟨λj hj=>?_,λj hj=>?_,λj hj k hk=>?_⟩ ?_
 ·have:j=i:=by simpa using hj
  subst this
  simpa using hi
 ·have:j=i:=by simpa using hj
  subst this
  rw[zy signs j hi]
  show 1<=1
  decide
 ·have h1:j=i:=by simpa using hj
  have h2:k=i:=by simpa using hk
  rw[h1,h2]
 ·rw[zy signs i hi]
  show ¬1<1
  decide
theorem azk{signs:Bytes}{b:Bytes}{p:Nat}(h:∀s,b[p]? = some s->s∉signs):oneOf 16 (ie (signs.map λc=>[c])) (cur b p)=.error p:=by
 have long:∀j∈List.range (signs.map λc=>[c]).length,0<(wd (signs.map λc=>[c]) j).length:=λj hj=>by
  have hj:j<signs.length:=by simpa using hj
  rw[zy signs j hj]
  exact Nat.succ_pos _
 rw[ae5]
 cases e:b[p]? with
 | none=>exact ae7 long (by rw[o5];exact e)
 | some s =>
  rw[acf long (by rw[o5];exact e),if_pos]
  ·rfl
  ·unfold keep
   rw[List.filter_eq_nil_iff]
   intro j hj
   have hj:j<signs.length:=by simpa using hj
   rw[zy signs j hj]
   show ¬(some signs[j]==some s)=true
   intro z
   have z2:signs[j]=s:=by simpa using z
   exact h s e (z2▸List.getElem_mem hj)
def Res{α:Type}(e:Except Nat α)(ok:α->Prop)(er:Nat->Prop):Prop:=match e with
 | .ok v=>ok v
 | .error q=>er q
def Rel2{α β:Type}(x:Except Nat α)(y:Except Nat β)(R:α->β->Prop):Prop:=match x,y with
 | .ok a,.ok b=>R a b
 | .error p,.error q=>p=q
 | _,_=>False
theorem Rel2.bind{α β γ δ:Type}{x:Except Nat α}{y:Except Nat β}{R:α->β->Prop}{S:γ->δ->Prop}{f:α->Except Nat γ}{g:β->Except Nat δ}(h:Rel2 x y R)(k:∀a b,x=.ok a->y=.ok b->R a b->Rel2 (f a) (g b) S):Rel2 (x >>= f) (y >>= g) S:=by
 match x,y,h with
 | .ok a,.ok b,h=>exact k a b rfl rfl h
 | .error p,.error q,h=>exact h
theorem Rel2.imp{α β:Type}{x:Except Nat α}{y:Except Nat β}{R S:α->β->Prop}(h:Rel2 x y R)(k:∀a b,x=.ok a->y=.ok b->R a b->S a b):Rel2 x y S:=by
 match x,y,h with
 | .ok a,.ok b,h=>exact k a b rfl rfl h
 | .error p,.error q,h=>exact h
theorem am9:∀(x y:Bytes) (c:Cur),lit (x++y) c=lit x c >>= lit y
 | [],y,c=>rfl
 | a::x,y,c=>by
  show(if c.next=some a then lit (x++y) c.on else .error c.at_)=(if c.next=some a then lit x c.on else .error c.at_) >>= lit y
  by_cases h:c.next=some a
  ·rw[if_pos h,if_pos h]
   exact am9 x y c.on
  ·rw[if_neg h,if_neg h]
   rfl
abbrev Ln:=Bytes×List (List Bytes)
def zf:List (List Bytes)->Cur->Except Nat (List (Nat×Nat)×Cur)
 | [],c=>.ok ([],c)
 | ws::r,c=>do
  let d <-lit [32] c
  let e <-oneOf 16 (ie ws) d
  pre [(d.at_,e.1)] (zf r e.2)
def v8:List Ln->Cur->Except Nat (List (Nat×Nat)×Cur)
 | [],c=>.ok ([],c)
 | l::r,c=>do
  let d <-lit l.1 c
  let e <-zf l.2 d
  let g <-lit [10] e.2
  pre e.1 (v8 r g)
def LINES:List Ln:=[
 (ascii "first",[[ascii "hunters",ascii "king"]]),
 (ascii "king",[[ascii "steps",ascii "slides"],[ascii "bare",ascii "armed"],[ascii "two",ascii "four"]]),
 (ascii "seat",[[ascii "barred",ascii "passed"],[ascii "quiet",ascii "hunters",ascii "men",ascii "all"]]),
 (ascii "exits",[[ascii "quiet",ascii "hunters",ascii "men",ascii "all"]]),
 (ascii "goal",[[ascii "edge",ascii "exits"]]),
 (ascii "thrice",[[ascii "drawn",ascii "hunters",ascii "king"]])]
def SIZES:List Bytes:=[[53],[54],[55],[56],[57],[49,48],[49,49],[49,50],[49,51]]
def GS:Bytes:=[46,83,88,35]
def SS:Bytes:=[46,104,109,75]
def pfB(ws:List Bytes):Bool:=((List.range ws.length).all λi=>(List.range ws.length).all λj=>i==j || !(wd ws i).isPrefixOf (wd ws j))&&((List.range ws.length).all λi=>decide ((wd ws i).length<16))
theorem an8{ws:List Bytes}(h:pfB ws=true):PF ws:=by
 unfold pfB at h
 simp only[Bool.and_eq_true,List.all_eq_true,List.mem_range,Bool.or_eq_true,beq_iff_eq,Bool.not_eq_true',decide_eq_true_eq]at h
 refine⟨λi j hi hj n z=>?_,h.2⟩
 rcases h.1 i hi j hj with e | e
 ·exact n e
 ·rw[List.isPrefixOf_iff_prefix.mpr z]at e
  cases e
structure ac0(l:Ln):Prop where
 hd:l.1.length<16
 few:l.2.length<=10
 ws:∀ws∈l.2,PF ws/\0<ws.length/\ws.length<=1000
def lnB(l:Ln):Bool:=decide (l.1.length<16)&&decide (l.2.length<=10)&&l.2.all λws=>pfB ws&&decide (0<ws.length)&&decide (ws.length<=1000)
theorem awo{l:Ln}(h:lnB l=true):ac0 l:=by
 unfold lnB at h
 simp only[Bool.and_eq_true,List.all_eq_true,decide_eq_true_eq]at h
 exact⟨h.1.1,h.1.2,λws hw=>⟨an8 (h.2 ws hw).1.1,(h.2 ws hw).1.2,(h.2 ws hw).2⟩⟩
theorem ahn:∀l∈LINES,ac0 l:=λl hl=>awo (by
 have:LINES.all lnB=true:=by decide +kernel
 exact List.all_eq_true.mp this l hl)
theorem aqf:PF SIZES:=an8 (by decide +kernel)
structure Sh where
 name:Bytes
 wide:Nat
 high:Nat
 ground:List Sq
 start:List Sq
 marks:List (Nat×Nat)
 limit:Nat
def aak(c:Cur):Except Nat ((Bytes×Nat×Nat)×Cur):=do
 let c <-lit (ascii "tafl ") c
 let n <-nameIn c
 let c <-lit [32] n.2
 let w <-oneOf 16 (ie SIZES) c
 let c <-lit [32] w.2
 let h <-oneOf 16 (ie SIZES) c
 let c <-lit [10] h.2
 .ok ((n.1,5+w.1,5+h.1),c)
def yx(b:Bytes):Except Nat Sh:=do
 let d <-aak (cur b 0)
 let c <-lit (ascii "ground\n") d.2
 let g <-iz GS d.1.2.1 d.1.2.2 c
 let c <-lit (ascii "start\n") g.2
 let s <-iz SS d.1.2.1 d.1.2.2 c
 let m <-v8 LINES s.2
 let c <-lit (ascii "limit ") m.2
 let l <-number 1 60000 c
 let c <-lit [10] l.2
 if c.rest=[] then .ok ⟨d.1.1,d.1.2.1,d.1.2.2,g.1,s.1,m.1,l.1⟩ else .error c.at_
theorem abz(p:UInt8->Bool)(h:((List.range 256).all λn=>p (UInt8.ofNat n))=true)(x:UInt8):p x=true:=by
 have:=List.all_eq_true.mp h x.toNat (List.mem_range.mpr x.toNat_lt)
 simpa using this
theorem avw(x:UInt8):keep SIZES (List.range SIZES.length) 0 x=if 53<=x.toNat/\x.toNat<=57 then[x.toNat-53] else if x.toNat=49 then[5,6,7,8] else[] :=
 of_decide_eq_true (abz (λx=>decide (keep SIZES (List.range SIZES.length) 0 x=if 53<=x.toNat/\x.toNat<=57 then[x.toNat-53] else if x.toNat=49 then[5,6,7,8] else[])) (by decide +kernel) x)
theorem avx(x:UInt8):keep SIZES [5,6,7,8] 1 x=if 48<=x.toNat/\x.toNat<=51 then[x.toNat-43] else[] :=
 of_decide_eq_true (abz (λx=>decide (keep SIZES [5,6,7,8] 1 x=if 48<=x.toNat/\x.toNat<=51 then[x.toNat-43] else[])) (by decide +kernel) x)
theorem ahy{lo hi f d:Nat}{b:Bytes}{p:Nat}:numberFrom lo hi (f+1) d (cur b p)=match b[p]? with
  | some x=>if isDigit x=true/\0<10*d+(x.toNat-48)/\begins lo hi (10*d+(x.toNat-48))=true then numberFrom lo hi f (10*d+(x.toNat-48)) (cur b (p+1))else if lo<=d/\d<=hi then .ok (d,cur b p)else .error p
  | none=>if lo<=d/\d<=hi then .ok (d,cur b p)else .error p:=by
 rw[numberFrom,o5,vq]
 rfl
theorem agp(d:Nat):begins 5 13 d=decide (d=1\/(5<=d/\d<=13)\/d=0):=by
 by_cases h:d<14
 ·have:∀n:Fin 14,begins 5 13 n.val=decide (n.val=1\/(5<=n.val/\n.val<=13)\/n.val=0):=by decide +kernel
  exact this ⟨d,h⟩
 ·rw[decide_eq_false (by omega)]
  unfold begins
  rw[List.any_eq_false]
  intro k _
  have h1:0<10 ^ k:=Nat.pow_pos (by decide)
  have h2:d<=d*10 ^ k:=Nat.le_mul_of_pos_right _ h1
  simp only[Bool.and_eq_true,decide_eq_true_eq]
  omega
theorem aqd{f d:Nat}{b:Bytes}{p:Nat}(h:5<=d)(h2:d<=13):numberFrom 5 13 (f+1) d (cur b p)=.ok (d,cur b p):=by
 rw[ahy]
 cases e:b[p]? with
 | none =>
  dsimp only
  rw[if_pos ⟨h,h2⟩]
 | some x =>
  dsimp only
  rw[if_neg,if_pos ⟨h,h2⟩]
  rw[agp]
  simp only[decide_eq_true_eq]
  omega
theorem ab7(x:UInt8):isDigit x=true↔48<=x.toNat/\x.toNat<=57:=by
 unfold isDigit
 simp
theorem size_eq(b:Bytes)(p:Nat):number 5 13 (cur b p)=(oneOf 16 (ie SIZES) (cur b p)) >>= λw=>.ok (5+w.1,w.2):=by
 have long:∀i∈List.range SIZES.length,0<(wd SIZES i).length:=by decide +kernel
 have len1:∀i,i<5->(wd SIZES i).length=1:=by decide +kernel
 have long2:∀i∈[5,6,7,8],1<(wd SIZES i).length:=by decide +kernel
 have len2:∀i,i<9->5<=i->(wd SIZES i).length=2:=by decide +kernel
 unfold number
 rw[ae5,ahy]
 cases e:b[p]? with
 | none =>
  rw[ae7 long (by rw[o5];exact e)]
  rfl
 | some x =>
  have hx:=x.toNat_lt
  rw[acf long (by rw[o5];exact e),avw,vq]
  dsimp only
  rw[agp]
  by_cases h1:53<=x.toNat/\x.toNat<=57
  ·rw[if_pos (by simp only[decide_eq_true_eq,ab7];omega),if_pos h1,if_neg (by simp)]
   rw[aqd (by omega) (by omega),ae6]
   ·show Except.ok (10*0+(x.toNat-48),cur b (p+1))=Except.ok (5+(x.toNat-53),cur b (p+1))
    congr 2
    omega
   ·refine⟨λi hi=>?_,λi hi=>?_,λi hi j hj=>?_⟩
    ·have:i=x.toNat-53:=by simpa using hi
     show i<9
     omega
    ·have:i=x.toNat-53:=by simpa using hi
     rw[len1 i (by omega)]
     exact Nat.le_refl _
    ·rw[show i=x.toNat-53 by simpa using hi,show j=x.toNat-53 by simpa using hj]
   ·rw[len1 _ (by omega)]
    decide
  ·rw[if_neg h1]
   by_cases h2:x.toNat=49
   ·rw[if_pos (by simp only[decide_eq_true_eq,ab7];omega),if_pos h2,if_neg (by simp)]
    have e1:10*0+(x.toNat-48)=1:=by omega
    rw[e1,ahy]
    cases e2:b[p+1]? with
    | none =>
     rw[ae7 long2 (by rw[o5];exact e2)]
     rfl
    | some y =>
     have hy:=y.toNat_lt
     rw[acf long2 (by rw[o5];exact e2),avx,vq]
     dsimp only
     rw[agp]
     by_cases h3:48<=y.toNat/\y.toNat<=51
     ·rw[if_pos (by simp only[decide_eq_true_eq,ab7];omega),if_pos h3,if_neg (by simp)]
      rw[aqd (by omega) (by omega),ae6]
      ·show Except.ok (10*1+(y.toNat-48),cur b (p+1+1))=Except.ok (5+(y.toNat-43),cur b (p+1+1))
       congr 2
       omega
      ·refine⟨λi hi=>?_,λi hi=>?_,λi hi j hj=>?_⟩
       ·have:i=y.toNat-43:=by simpa using hi
        show i<9
        omega
       ·have:i=y.toNat-43:=by simpa using hi
        rw[len2 i (by omega) (by omega)]
        exact Nat.le_refl _
       ·rw[show i=y.toNat-43 by simpa using hi,show j=y.toNat-43 by simpa using hj]
      ·rw[len2 _ (by omega) (by omega)]
       decide
     ·rw[if_neg (by simp only[decide_eq_true_eq,ab7];omega),if_neg h3,if_neg (by omega),if_pos (by rfl)]
      rfl
   ·rw[if_neg (by simp only[decide_eq_true_eq,ab7];omega),if_neg h2,if_neg (by omega),if_pos (by rfl)]
    rfl
def abl{α:Type}(byte:α->UInt8)(y:Nat):Nat->Nat->List α->List Sq
 | _,_,[]=>[]
 | x,p,k::r=>(p,13*y+x,byte k)::abl byte y (x+1) (p+1) r
def aaf{α:Type}(byte:α->UInt8):List (List α)->List Nat->List Sq
 | r::rs,p::ps=>abl byte rs.length 0 p r++aaf byte rs ps
 | _,_=>[]
structure aa9{α:Type}(signs:Bytes)(sign:UInt8->Option α)(byte:α->UInt8):Prop where
 mem:∀x,x∈signs↔(sign x).isSome=true
 byte:∀x k,sign x=some k->byte k=x
theorem am1:aa9 GS kindSign kindByte:=by
 refine⟨λx=>?_,λx k h=>?_⟩
 ·exact of_decide_eq_true (abz (λx=>decide (x∈GS↔(kindSign x).isSome=true)) (by decide +kernel) x)
 ·have:=of_decide_eq_true (abz (λx=>decide ((kindSign x).all (λk=>kindByte k==x)=true)) (by decide +kernel) x)
  rw[h]at this
  exact eq_of_beq this
theorem aob:aa9 SS pieceSign pieceByte:=by
 refine⟨λx=>?_,λx k h=>?_⟩
 ·exact of_decide_eq_true (abz (λx=>decide (x∈SS↔(pieceSign x).isSome=true)) (by decide +kernel) x)
 ·have:=of_decide_eq_true (abz (λx=>decide ((pieceSign x).all (λk=>pieceByte k==x)=true)) (by decide +kernel) x)
  rw[h]at this
  exact eq_of_beq this
theorem aou{α:Type}{signs:Bytes}{sign:UInt8->Option α}{byte:α->UInt8}(S:aa9 signs sign byte)(b:Bytes)(y:Nat):∀(n x p:Nat),
  Rel2 (oh signs y x n (cur b p) >>= λl=>lit [10] l.2 >>= λc=>Except.ok (l.1,c)) (rowIn sign n (cur b p)) λl r=>l.2=r.2/\l.1=abl byte y x p r.1/\r.1.length=n/\l.2=cur b (p+n+1)
 | 0,x,p=>by
  rw[oh,rowIn]
  show Rel2 (lit [10] (cur b p) >>= λc=>Except.ok (([]:List Sq),c)) ((lit [10] (cur b p)).map λd=>([],d)) _
  cases e:lit [10] (cur b p)with
  | ok d=>exact⟨rfl,rfl,rfl,aca _ _ _ _ e⟩
  | error q=>exact rfl
 | n+1,x,p=>by
  have ih:=aou S b y n (x+1) (p+1)
  rw[rowIn,o5,vq]
  cases e:b[p]? with
  | none =>
   rw[aip (λs es=>by rw[e]at es;cases es)]
   exact rfl
  | some s =>
   show Rel2 _ (match sign s with | some k=>_ | none=>_) _
   cases es:sign s with
   | none =>
    rw[aip (λs' es'=>by
     rw[e]at es'
     cases es'
     intro hm
     have:=(S.mem s).mp hm
     rw[es]at this
     cases this)]
    exact rfl
   | some k =>
    have hm:s∈signs:=(S.mem s).mpr (by rw[es];rfl)
    rw[aow e hm]
    dsimp only
    revert ih
    cases h1:oh signs y (x+1) n (cur b (p+1))with
    | error q =>
     cases h2:rowIn sign n (cur b (p+1))with
     | error q2=>exact λh=>h
     | ok v=>exact λh=>h
    | ok v =>
     show Rel2 (lit [10] v.2 >>= λc=>Except.ok (v.1,c)) _ _->Rel2 (lit [10] v.2 >>= λc=>Except.ok ([(p,13*y+x,s)]++v.1,c)) _ _
     cases h3:lit [10] v.2 with
     | error q =>
      cases h2:rowIn sign n (cur b (p+1))with
      | error q2=>exact λh=>h
      | ok v=>exact λh=>h
     | ok c =>
      cases h2:rowIn sign n (cur b (p+1))with
      | error q2=>exact λh=>h
      | ok u =>
       rintro⟨a1,a2,a3,a4⟩
       refine⟨a1,?_,by show u.1.length+1=n+1;rw[a3],?_⟩
       ·show(p,13*y+x,s)::v.1=(p,13*y+x,byte k)::abl byte y (x+1) (p+1) u.1
        rw[S.byte s k es]
        exact congrArg _ a2
       ·have a4:c=cur b (p+1+n+1):=a4
        show c=_
        rw[a4]
        congr 1
        omega
theorem ath(signs:Bytes)(wide h:Nat)(c:Cur):iz signs wide (h+1) c=(oh signs h 0 wide c >>= λl=>lit [10] l.2 >>= λc=>Except.ok (l.1,c)) >>= λl=>iz signs wide h l.2 >>= λm=>Except.ok (l.1++m.1,m.2):=by
 rw[iz]
 cases oh signs h 0 wide c with
 | error q=>rfl
 | ok l =>
  show(match lit [10] l.2 with | .error q=>_ | .ok e=>_)=((lit [10] l.2 >>= λc=>Except.ok (l.1,c)) >>= _)
  cases lit [10] l.2 with
  | error q=>rfl
  | ok e =>
   dsimp only
   cases hb:iz signs wide h e with
   | error q=>show _=(iz signs wide h e >>= λm=>Except.ok (l.1++m.1,m.2));rw[hb];rfl
   | ok m=>show _=(iz signs wide h e >>= λm=>Except.ok (l.1++m.1,m.2));rw[hb];rfl
theorem alh{α:Type}{signs:Bytes}{sign:UInt8->Option α}{byte:α->UInt8}(S:aa9 signs sign byte)(b:Bytes)(wide:Nat):∀(h p:Nat),
  Rel2 (iz signs wide h (cur b p)) (rowsIn sign wide h (cur b p)) λl r=>l.2=r.2.2/\l.1=aaf byte r.1 r.2.1/\r.1.length=h/\r.2.1.length=h/\(∀x∈r.1,x.length=wide)/\l.2=cur b (p+h*(wide+1))
 | 0,p=>⟨rfl,rfl,rfl,rfl,λx hx=>absurd hx (by simp),by show cur b p=_;rw[Nat.zero_mul];rfl⟩
 | h+1,p=>by
  rw[ath,rowsIn]
  refine Rel2.bind (aou S b h wide 0 p) λl r e1 e2 hr=>?_
  obtain⟨l1,l2⟩:=l
  obtain⟨r1,r2⟩:=r
  obtain⟨a1,a2,a3,a4⟩:=hr
  have a1:l2=r2:=a1
  have a4:l2=cur b (p+wide+1):=a4
  subst a1
  subst a4
  refine Rel2.bind (alh S b wide h (p+wide+1)) λm q e3 e4 hq=>?_
  obtain⟨m1,m2⟩:=m
  obtain⟨q1,q2,q3⟩:=q
  obtain⟨b1,b2,b3,b4,b5,b6⟩:=hq
  refine⟨b1,?_,by show q1.length+1=h+1;rw[b3],by show q2.length+1=h+1;rw[b4],λx hx=>?_,?_⟩
  ·show l1++m1=abl byte q1.length 0 p r1++aaf byte q1 q2
   rw[show q1.length=h from b3]
   rw[show l1=_ from a2,show m1=_ from b2]
  ·rcases List.mem_cons.mp hx with rfl | hx
   ·exact a3
   ·exact b5 x hx
  ·have b6:m2=_:=b6
   show m2=_
   rw[b6]
   congr 1
   rw[Nat.succ_mul]
   omega
theorem a0i{α:Type}(l:List α)(r:Except Nat (List α×Cur)):pre l r=r >>= λm=>Except.ok (l++m.1,m.2):=by
 cases r<;>rfl
theorem ah3:∀(f:Nat) (l:List (Nat×Bytes)) (c:Cur) (i:Nat) (d:Cur),oneOf f l c=.ok (i,d)->∃w,(i,w)∈l/\c.rest=w++d.rest
 | 0,l,c,i,d,h=>by cases h
 | f+1,l,c,i,d,h=>by
  rw[oneOf]at h
  cases e:l.find? λ(w:Nat×Bytes)=>w.2.isEmpty with
  | some w =>
   rw[e]at h
   dsimp only at h
   have h1:=List.find?_some e
   have h2:=List.mem_of_find?_eq_some e
   injection h with h
   injection h with h3 h4
   subst h3 h4
   refine⟨w.2,h2,?_⟩
   rw[List.isEmpty_iff.mp h1]
   rfl
  | none =>
   rw[e]at h
   dsimp only at h
   cases en:c.next with
   | none=>rw[en]at h;cases h
   | some x =>
    rw[en]at h
    dsimp only at h
    split at h
    ·cases h
    ·obtain⟨w,hw,hr⟩:=ah3 f _ _ _ _ h
     rw[List.mem_filterMap]at hw
     obtain⟨⟨j,v⟩,hv,e2⟩:=hw
     dsimp only at e2
     split at e2
     ·rename_i hh
      injection e2 with e2
      injection e2 with e3 e4
      subst e3
      cases v with
      | nil=>cases hh
      | cons y v =>
       injection hh with hh
       subst hh
       refine⟨y::v,hv,?_⟩
       subst e4
       unfold Cur.next at en
       unfold Cur.on at hr
       cases er:c.rest with
       | nil=>rw[er]at en;cases en
       | cons z r =>
        rw[er]at en hr
        injection en with en
        subst en
        simpa using hr
     ·cases e2
theorem iw:∀(w:Bytes) (c d:Cur),lit w c=.ok d->c.rest=w++d.rest
 | [],c,d,h=>by
  injection h with h
  subst h
  rfl
 | x::w,c,d,h=>by
  rw[lit]at h
  split at h
  ·rename_i hn
   have ih:=iw w _ _ h
   unfold Cur.next at hn
   unfold Cur.on at ih
   cases er:c.rest with
   | nil=>rw[er]at hn;cases hn
   | cons z r =>
    rw[er]at hn ih
    injection hn with hn
    subst hn
    simpa using ih
  ·cases h
theorem aqg(p:UInt8->Bool):∀(n:Nat) (c:Cur),c.rest=(some_ p n c).1++(some_ p n c).2.rest/\(some_ p n c).1.length<=n
 | 0,c=>⟨rfl,Nat.le_refl _⟩
 | n+1,c=>by
  rw[some_]
  cases en:c.next with
  | none=>exact⟨rfl,Nat.zero_le _⟩
  | some x =>
   dsimp only
   split
   ·have ih:=aqg p n c.on
    unfold Cur.next at en
    cases er:c.rest with
    | nil=>rw[er]at en;cases en
    | cons z r =>
     rw[er]at en
     injection en with en
     subst en
     have e2:c.on.rest=r:=by unfold Cur.on;rw[er];rfl
     rw[e2]at ih
     refine⟨?_,Nat.succ_le_succ ih.2⟩
     show z::r=z::(_++_)
     rw[<-ih.1]
   ·exact⟨rfl,Nat.zero_le _⟩
theorem ank{c:Cur}{n:Bytes}{d:Cur}(h:nameIn c=.ok (n,d)):c.rest=n++d.rest/\n.length<=16:=by
 unfold nameIn at h
 split at h
 ·split at h
  ·have:=aqg (λ(y:UInt8)=>isLetter y||isDigit y) 16 c
   injection h with h
   rw[h]at this
   exact this
  ·cases h
 ·cases h
structure kj(s:Sh)(r:Rules):Prop where
 name:s.name=r.name
 wide:s.wide=r.wide
 high:s.high=r.high
 ground:s.ground=aaf kindByte r.ground r.groundAt
 start:s.start=aaf pieceByte r.start r.startAt
 marks:s.marks.map (·.2)=[r.first,r.slides.toNat,r.armed.toNat,r.four.toNat,r.passed.toNat,r.seat,r.exits,r.goal,r.thrice]
 goalAt:(s.marks.getD 7 (0,0)).1=r.goalAt
 limit:s.limit=r.limit
 w5:5<=r.wide/\r.wide<=13
 h5:5<=r.high/\r.high<=13
 g1:r.ground.length=r.high
 g2:r.groundAt.length=r.high
 g3:∀x∈r.ground,x.length=r.wide
 s1:r.start.length=r.high
 s2:r.startAt.length=r.high
 s3:∀x∈r.start,x.length=r.wide
 first:r.first<2
 seat:r.seat<4
 exits:r.exits<4
 goal:r.goal<2
 thrice:r.thrice<3
 nlen:r.name.length<=16
theorem ak1:ascii "\nground\n" = [10]++ascii "ground\n" := by decide +kernel
theorem asv:ascii "first " = ascii "first" ++ [32]:=by decide +kernel
theorem asx:ascii "\nking " = [10]++(ascii "king" ++ [32]):=by decide +kernel
theorem asz:ascii "\nseat " = [10]++(ascii "seat" ++ [32]):=by decide +kernel
theorem asu:ascii "\nexits " = [10]++(ascii "exits" ++ [32]):=by decide +kernel
theorem asw:ascii "\ngoal " = [10]++(ascii "goal" ++ [32]):=by decide +kernel
theorem as3:ascii "\nthrice " = [10]++(ascii "thrice" ++ [32]):=by decide +kernel
theorem asy:ascii "\nlimit " = [10]++ascii "limit " := by decide +kernel
theorem w_any(l:List String)(c:Cur):word l c=oneOf 16 (ie (l.map ascii)) c:=by
 unfold word ie
 rw[List.length_map]
 congr 1
 refine List.map_congr_left λi hi=>?_
 have hi:=List.mem_range.mp hi
 simp[List.getD,hi]
theorem azi{ws:List Bytes}{c:Cur}{i:Nat}{d:Cur}(h:oneOf 16 (ie ws) c=.ok (i,d)):i<ws.length:=by
 obtain⟨w,hw,hr⟩:=ah3 _ _ _ _ _ h
 obtain⟨j,hj,e⟩:=List.mem_map.mp hw
 injection e with e1 e2
 subst e1
 exact List.mem_range.mp hj
theorem agd{k:Nat}(h:k<2):(k==1).toNat=k:=by
 match k,h with
 | 0,_=>rfl
 | 1,_=>rfl
theorem jt{α β:Type}(a:α)(f:α->Except Nat β):(Except.ok a >>= f)=f a:=rfl
def adf(b:Bytes):Except Nat Rules:=do
 let c <-lit (ascii "tafl ") (cur b 0)
 let n <-nameIn c
 let c <-lit [32] n.2
 let w <-oneOf 16 (ie SIZES) c
 let c <-lit [32] w.2
 let h <-oneOf 16 (ie SIZES) c
 let c <-lit [10] h.2
 let c <-lit (ascii "ground\n") c
 let g <-rowsIn kindSign (5+w.1) (5+h.1) c
 let c <-lit (ascii "start\n") g.2.2
 let s <-rowsIn pieceSign (5+w.1) (5+h.1) c
 let c <-lit (ascii "first") s.2.2
 let c <-lit [32] c
 let f <-oneOf 16 (ie [ascii "hunters",ascii "king"]) c
 let c <-lit [10] f.2
 let c <-lit (ascii "king") c
 let c <-lit [32] c
 let k1 <-oneOf 16 (ie [ascii "steps",ascii "slides"]) c
 let c <-lit [32] k1.2
 let k2 <-oneOf 16 (ie [ascii "bare",ascii "armed"]) c
 let c <-lit [32] k2.2
 let k3 <-oneOf 16 (ie [ascii "two",ascii "four"]) c
 let c <-lit [10] k3.2
 let c <-lit (ascii "seat") c
 let c <-lit [32] c
 let s1 <-oneOf 16 (ie [ascii "barred",ascii "passed"]) c
 let c <-lit [32] s1.2
 let s2 <-oneOf 16 (ie [ascii "quiet",ascii "hunters",ascii "men",ascii "all"]) c
 let c <-lit [10] s2.2
 let c <-lit (ascii "exits") c
 let c <-lit [32] c
 let x <-oneOf 16 (ie [ascii "quiet",ascii "hunters",ascii "men",ascii "all"]) c
 let c <-lit [10] x.2
 let c <-lit (ascii "goal") c
 let p <-lit [32] c
 let o <-oneOf 16 (ie [ascii "edge",ascii "exits"]) p
 let c <-lit [10] o.2
 let c <-lit (ascii "thrice") c
 let c <-lit [32] c
 let t <-oneOf 16 (ie [ascii "drawn",ascii "hunters",ascii "king"]) c
 let c <-lit [10] t.2
 let c <-lit (ascii "limit ") c
 let l <-number 1 60000 c
 let c <-lit [10] l.2
 if c.rest=[] then return⟨n.1,5+w.1,5+h.1,g.1,g.2.1,s.1,s.2.1,f.1,k1.1==1,k2.1==1,k3.1==1,s1.1==1,s2.1,x.1,o.1,p.at_,t.1,l.1⟩ else .error c.at_
theorem anj{b:Bytes}{p:Nat}{n:Bytes}{d:Cur}(h:nameIn (cur b p)=.ok (n,d)):d=cur b d.at_:=by
 have key:∀(q:UInt8->Bool) (k p:Nat),(some_ q k (cur b p)).2=cur b (some_ q k (cur b p)).2.at_:=by
  intro q k
  induction k with
  | zero=>intro p;rfl
  | succ k ih =>
   intro p
   rw[some_]
   split
   ·split
    ·rw[vq];exact ih (p+1)
    ·rfl
   ·rfl
 unfold nameIn at h
 split at h
 ·split at h
  ·injection h with h
   have:=key (λ(y:UInt8)=>isLetter y||isDigit y) 16 p
   rw[h]at this
   exact this
  ·cases h
 ·cases h
theorem ah2{b:Bytes}:∀(f:Nat) (l:List (Nat×Bytes)) (p i:Nat) (d:Cur),oneOf f l (cur b p)=.ok (i,d)->d=cur b d.at_
 | 0,l,p,i,d,h=>by cases h
 | f+1,l,p,i,d,h=>by
  rw[oneOf]at h
  split at h
  ·injection h with h
   injection h with h3 h4
   subst h4
   rfl
  ·split at h
   ·cases h
   ·dsimp only at h
    split at h
    ·cases h
    ·rw[vq]at h
     exact ah2 f _ _ _ _ h
theorem aek{α β:Type}{x:Except Nat α}{f g:α->Except Nat β}(h:∀a,x=.ok a->f a=g a):x >>= f=x >>= g:=by
 cases x with
 | error q=>rfl
 | ok a=>exact h a rfl
theorem ald{β:Type}{b:Bytes}{p:Nat}{f g:Nat×Cur->Except Nat β}(h:∀w,oneOf 16 (ie SIZES) (cur b p)=.ok w->f (5+w.1,w.2)=g w):number 5 13 (cur b p) >>= f=oneOf 16 (ie SIZES) (cur b p) >>= g:=by
 rw[size_eq]
 cases e:oneOf 16 (ie SIZES) (cur b p)with
 | error q=>rfl
 | ok w=>exact h w e
theorem amj(b:Bytes):grammar b=adf b:=by
 have hc:(⟨b,0⟩:Cur)=cur b 0:=rfl
 unfold grammar adf
 rw[hc]
 simp only[ak1,asv,asx,asz,asu,asw,as3,asy,am9,bind_assoc,w_any,List.map_cons,List.map_nil,ENMITY]
 refine aek λc e0=>?_
 have hc0:=aca _ _ _ _ e0
 subst hc0
 refine aek λv e1=>?_
 obtain⟨n,d⟩:=v
 have hd:=anj e1
 dsimp only
 rw[hd]
 refine aek λc e2=>?_
 have hc2:=aca _ _ _ _ e2
 subst hc2
 refine ald λv e3=>?_
 obtain⟨w,c⟩:=v
 have hd3:=ah2 _ _ _ _ _ e3
 dsimp only
 rw[hd3]
 refine aek λc e4=>?_
 have hc4:=aca _ _ _ _ e4
 subst hc4
 refine ald λv e3=>?_
 rfl
def AtB(b:Bytes)(c:Cur):Prop:=c=cur b c.at_
theorem at0(b:Bytes)(p:Nat):AtB b (cur b p):=rfl
theorem AtB.lit{b:Bytes}{c d:Cur}{w:Bytes}(h:AtB b c)(e:Tafl.lit w c=.ok d):AtB b d:=by
 rw[h]at e
 rw[aca _ _ _ _ e]
 exact rfl
theorem AtB.name{b:Bytes}{c:Cur}{n:Bytes×Cur}(h:AtB b c)(e:nameIn c=.ok n):AtB b n.2:=by
 rw[h]at e
 exact anj (n:=n.1) e
theorem AtB.one{b:Bytes}{c:Cur}{n:Nat×Cur}{f:Nat}{l:List (Nat×Bytes)}(h:AtB b c)(e:oneOf f l c=.ok n):AtB b n.2:=by
 rw[h]at e
 exact ah2 _ _ _ n.1 _ e
theorem gn{α γ δ:Type}{x:Except Nat α}{S:γ->δ->Prop}{f:α->Except Nat γ}{g:α->Except Nat δ}(k:∀a,x=.ok a->Rel2 (f a) (g a) S):Rel2 (x >>= f) (x >>= g) S:=by
 cases x with
 | error q=>exact rfl
 | ok a=>exact k a rfl
theorem ali{α:Type}{signs:Bytes}{sign:UInt8->Option α}{byte:α->UInt8}(S:aa9 signs sign byte){b:Bytes}{c:Cur}(hc:AtB b c)(wide h:Nat):
  Rel2 (iz signs wide h c) (rowsIn sign wide h c) λl r=>l.2=r.2.2/\l.1=aaf byte r.1 r.2.1/\r.1.length=h/\r.2.1.length=h/\(∀x∈r.1,x.length=wide)/\AtB b l.2:=by
 rw[hc]
 exact(alh S b wide h c.at_).imp λa d _ _ ⟨h1,h2,h3,h4,h5,h6⟩=>⟨h1,h2,h3,h4,h5,by rw[h6];exact rfl⟩
theorem j8{ws:List Bytes}{c:Cur}{v:Nat×Cur}(h:oneOf 16 (ie ws) c=.ok v):v.1<ws.length:=azi (i:=v.1) (d:=v.2) h
theorem a2s(b:Bytes):Rel2 (yx b) (adf b) kj:=by
 unfold yx adf aak LINES
 simp only[v8,zf,a0i,bind_assoc,jt]
 refine gn λc e0=>?_
 have a0:=(at0 b 0).lit e0
 refine gn λn e1=>?_
 have a1:=a0.name e1
 refine gn λc e2=>?_
 have a2:=a1.lit e2
 refine gn λw ew=>?_
 have a3:=a2.one ew
 refine gn λc e3=>?_
 have a4:=a3.lit e3
 refine gn λh eh=>?_
 have a5:=a4.one eh
 refine gn λc e4=>?_
 have a6:=a5.lit e4
 refine gn λc e5=>?_
 have a7:=a6.lit e5
 refine Rel2.bind (ali am1 a7 _ _) λg g' _ _ hg=>?_
 obtain⟨g1,g2,g3,g4,g5,g6⟩:=hg
 rw[<-g1]
 refine gn λc e6=>?_
 have a8:=g6.lit e6
 refine Rel2.bind (ali aob a8 _ _) λs s' _ _ hs=>?_
 obtain⟨s1,s2,s3,s4,s5,s6⟩:=hs
 rw[<-s1]
 refine gn λc _=>?_
 refine gn λc _=>?_
 refine gn λf ef=>?_
 refine gn λc _=>?_
 refine gn λc _=>?_
 refine gn λc _=>?_
 refine gn λk1 ek1=>?_
 refine gn λc _=>?_
 refine gn λk2 ek2=>?_
 refine gn λc _=>?_
 refine gn λk3 ek3=>?_
 refine gn λc _=>?_
 refine gn λc _=>?_
 refine gn λc _=>?_
 refine gn λt1 et1=>?_
 refine gn λc _=>?_
 refine gn λt2 et2=>?_
 refine gn λc _=>?_
 refine gn λc _=>?_
 refine gn λc _=>?_
 refine gn λx ex=>?_
 refine gn λc _=>?_
 refine gn λc _=>?_
 refine gn λp _=>?_
 refine gn λo eo=>?_
 refine gn λc _=>?_
 refine gn λc _=>?_
 refine gn λc _=>?_
 refine gn λt et=>?_
 refine gn λc _=>?_
 refine gn λc _=>?_
 refine gn λl el=>?_
 refine gn λc _=>?_
 have hw:w.1<9:=j8 ew
 have hh:h.1<9:=j8 eh
 by_cases hr:c.rest=[]
 ·rw[if_pos hr,if_pos hr]
  refine⟨rfl,rfl,rfl,g2,s2,?_,rfl,rfl,⟨by show 5<=5+w.1;omega,by show 5+w.1<=13;omega⟩,⟨by show 5<=5+h.1;omega,by show 5+h.1<=13;omega⟩,g3,g4,g5,s3,s4,s5,j8 ef,j8 et2,j8 ex,j8 eo,j8 et,(ank (n:=n.1) (d:=n.2) e1).2⟩
  show[f.1,k1.1,k2.1,k3.1,t1.1,t2.1,x.1,o.1,t.1]=[f.1,(k1.1==1).toNat,(k2.1==1).toNat,(k3.1==1).toNat,(t1.1==1).toNat,t2.1,x.1,o.1,t.1]
  rw[agd (j8 ek1),agd (j8 ek2),agd (j8 ek3),agd (j8 et1)]
 ·rw[if_neg hr,if_neg hr]
  exact rfl
theorem aqb(b:Bytes):Rel2 (yx b) (grammar b) kj:=by
 rw[amj]
 exact a2s b
theorem aba{α β:Type}{x:Except Nat α}{f:α->Except Nat β}{r:β}(h:x >>= f=.ok r):∃a,x=.ok a/\f a=.ok r:=by
 cases x with
 | error q=>cases h
 | ok a=>exact⟨a,rfl,h⟩
theorem au5{c:Cur}{n:Bytes}{w h:Nat}{d:Cur}(e:aak c=.ok ((n,w,h),d)):w<=13/\h<=13:=by
 unfold aak at e
 obtain⟨_,_,e⟩:=aba e
 obtain⟨_,_,e⟩:=aba e
 obtain⟨_,_,e⟩:=aba e
 obtain⟨w1,ew,e⟩:=aba e
 obtain⟨_,_,e⟩:=aba e
 obtain⟨h1,eh,e⟩:=aba e
 obtain⟨_,_,e⟩:=aba e
 have hw:w1.1<9:=j8 ew
 have hh:h1.1<9:=j8 eh
 injection e with e
 injection e with e _
 injection e with _ e
 injection e with e1 e2
 omega
theorem ak6(bs:ByteArray):∀(n i:Nat) (r:List UInt8),n=bs.size-i->ByteArray.toList.loop bs i r=r.reverse++bs.data.toList.drop i
 | 0,i,r,h=>by
  rw[ByteArray.toList.loop,if_neg (by omega),List.drop_eq_nil_of_le (by show bs.data.toList.length<=i;rw[Array.length_toList];show bs.size<=i;omega),List.append_nil]
 | n+1,i,r,h=>by
  have hi:i<bs.data.toList.length:=by rw[Array.length_toList];show i<bs.size;omega
  rw[ByteArray.toList.loop,if_pos (by omega),ak6 bs n (i+1) _ (by omega),List.drop_eq_getElem_cons hi,List.reverse_cons,List.append_assoc]
  congr 2
  show bs.get! i::_=_
  congr 1
  have hi2:i<bs.data.size:=by rw[<-Array.length_toList];exact hi
  show bs.data[i]! = _
  rw[getElem!_pos bs.data i hi2]
  rfl
theorem atf(bs:ByteArray):bs.toList=bs.data.toList:=by
 unfold ByteArray.toList
 rw[ak6 bs _ 0 [] rfl]
 rfl
theorem ate(l:List Char):ascii (String.ofList l)=l.flatMap String.utf8EncodeChar:=by
 unfold ascii
 rw[String.toUTF8_eq_toByteArray,String.toByteArray_ofList,atf]
 show(List.flatMap String.utf8EncodeChar l).toByteArray.data.toList=_
 rw[List.data_toByteArray]
theorem al3(x:Nat)(h:x<10):String.utf8EncodeChar x.digitChar=[UInt8.ofNat (48+x)]:=by
 have:∀n:Fin 10,String.utf8EncodeChar n.val.digitChar=[UInt8.ofNat (48+n.val)]:=by decide +kernel
 exact this ⟨x,h⟩
theorem ag0(n:Nat):digitsOf n=(Nat.toDigits 10 n).flatMap String.utf8EncodeChar:=ate _
theorem ag2{x:Nat}(h:x<10):digitsOf x=[UInt8.ofNat (48+x)]:=by
 rw[ag0,Nat.toDigits_of_lt_base h]
 show String.utf8EncodeChar x.digitChar++[]=_
 rw[al3 x h]
 rfl
theorem ag1{d x:Nat}(hd:0<d)(h:x<10):digitsOf (10*d+x)=digitsOf d++[UInt8.ofNat (48+x)]:=by
 rw[ag0,ag0,<-Nat.toDigits_append_toDigits (by decide) hd h,List.flatMap_append,Nat.toDigits_of_lt_base h]
 show _++(String.utf8EncodeChar x.digitChar++[])=_
 rw[al3 x h]
 rfl
def dg0(d:Nat):Bytes:=if d=0 then[] else digitsOf d
theorem aub{d x:Nat}(h:x<10)(h2:0<10*d+x):dg0 (10*d+x)=dg0 d++[UInt8.ofNat (48+x)]:=by
 unfold dg0
 rw[if_neg (by omega)]
 by_cases hd:d=0
 ·subst hd
  rw[if_pos rfl,Nat.mul_zero,Nat.zero_add,ag2 h]
  rfl
 ·rw[if_neg hd,ag1 (by omega) h]
theorem anq{lo hi:Nat}(hlo:0<lo):∀(f d:Nat) (c:Cur) (n:Nat) (e:Cur),numberFrom lo hi f d c=.ok (n,e)->dg0 d++c.rest=dg0 n++e.rest
 | 0,d,c,n,e,h=>by
  injection h with h
  injection h with h1 h2
  subst h1 h2
  rfl
 | f+1,d,c,n,e,h=>by
  have fin:∀(h:(if lo<=d/\d<=hi then Except.ok (d,c)else Except.error c.at_)=Except.ok (n,e)),dg0 d++c.rest=dg0 n++e.rest:=λh=>by
   split at h
   ·injection h with h
    injection h with h1 h2
    subst h1 h2
    rfl
   ·cases h
  rw[numberFrom]at h
  cases en:c.next with
  | none =>
   rw[en]at h
   exact fin h
  | some x =>
   rw[en]at h
   dsimp only at h
   split at h
   ·rename_i hx
    have ih:=anq hlo f _ _ _ _ h
    have hd:=(ab7 x).mp hx.1
    rw[aub (by omega) hx.2.1]at ih
    unfold Cur.next at en
    unfold Cur.on at ih
    cases er:c.rest with
    | nil=>rw[er]at en;cases en
    | cons z r =>
     rw[er]at en ih
     injection en with en
     subst en
     have e3:UInt8.ofNat (48+(z.toNat-48))=z:=by
      rw[show 48+(z.toNat-48)=z.toNat by omega]
      exact UInt8.ofNat_toNat
     rw[e3]at ih
     simpa using ih
   ·exact fin h
theorem aua{n:Nat}(h:0<n):dg0 n=digitsOf n:=by
 unfold dg0
 rw[if_neg (by omega)]
theorem anp{lo hi:Nat}(hlo:0<lo):∀(f d:Nat) (c:Cur) (n:Nat) (e:Cur),numberFrom lo hi f d c=.ok (n,e)->0<d\/0<f->0<n
 | 0,d,c,n,e,h,hd=>by
  injection h with h
  injection h with h1 h2
  subst h1
  omega
 | f+1,d,c,n,e,h,hd=>by
  have fin:∀(h:(if lo<=d/\d<=hi then Except.ok (d,c)else Except.error c.at_)=Except.ok (n,e)),0<n:=λh=>by
   split at h
   ·injection h with h
    injection h with h1 h2
    omega
   ·cases h
  rw[numberFrom]at h
  cases en:c.next with
  | none=>rw[en]at h;exact fin h
  | some x =>
   rw[en]at h
   dsimp only at h
   split at h
   ·rename_i hx
    exact anp hlo f _ _ _ _ h (.inl hx.2.1)
   ·exact fin h
theorem axd{lo hi:Nat}(hlo:0<lo){c:Cur}{n:Nat×Cur}(h:number lo hi c=.ok n):c.rest=digitsOf n.1++n.2.rest:=by
 have h1:=anq hlo _ _ _ n.1 n.2 h
 rw[aua (anp hlo _ _ _ n.1 n.2 h (.inr (by decide)))]at h1
 exact h1
theorem aov{α:Type}{signs:Bytes}{sign:UInt8->Option α}{byte:α->UInt8}(S:aa9 signs sign byte):∀(n:Nat) (c:Cur) (r:List α×Cur),rowIn sign n c=.ok r->c.rest=(r.1.map byte++[10])++r.2.rest
 | 0,c,r,h=>by
  rw[rowIn]at h
  cases e:lit [LF] c with
  | error q=>rw[e]at h;cases h
  | ok d =>
   rw[e]at h
   injection h with h
   subst h
   exact iw _ _ _ e
 | n+1,c,r,h=>by
  rw[rowIn]at h
  cases en:c.next with
  | none=>rw[en]at h;cases h
  | some x =>
   rw[en]at h
   have h:(match sign x with | some k=>(rowIn sign n c.on).map λ(r:List α×Cur)=>(k::r.1,r.2) | none=>.error c.at_)=Except.ok r:=h
   cases es:sign x with
   | none=>rw[es]at h;cases h
   | some k =>
    rw[es]at h
    dsimp only at h
    cases e:rowIn sign n c.on with
    | error q=>rw[e]at h;cases h
    | ok u =>
     rw[e]at h
     injection h with h
     subst h
     have ih:=aov S n _ _ e
     unfold Cur.next at en
     unfold Cur.on at ih
     cases er:c.rest with
     | nil=>rw[er]at en;cases en
     | cons z r =>
      rw[er]at en ih
      injection en with en
      subst en
      show z::r=byte k::((u.1.map byte++[10])++u.2.rest)
      rw[S.byte _ _ es,<-ih]
      rfl
theorem aiq{α:Type}{signs:Bytes}{sign:UInt8->Option α}{byte:α->UInt8}(S:aa9 signs sign byte)(wide:Nat):∀(n:Nat) (c:Cur) (r:List (List α)×List Nat×Cur),rowsIn sign wide n c=.ok r->c.rest=r.1.flatMap (λl=>l.map byte++[10])++r.2.2.rest
 | 0,c,r,h=>by
  injection h with h
  subst h
  rfl
 | n+1,c,r,h=>by
  rw[rowsIn]at h
  cases e:rowIn sign wide c with
  | error q=>rw[e]at h;cases h
  | ok u =>
   rw[e,jt]at h
   dsimp only at h
   cases e2:rowsIn sign wide n u.2 with
   | error q=>rw[e2]at h;cases h
   | ok v =>
    rw[e2,jt]at h
    injection h with h
    subst h
    have h1:=aov S _ _ _ e
    have h2:=aiq S wide n _ _ e2
    show c.rest=((u.1.map byte++[10])++v.1.flatMap (λl=>l.map byte++[10]))++v.2.2.rest
    rw[h1,h2]
    simp only[List.append_assoc]
theorem yq{ws:List Bytes}{c:Cur}{v:Nat×Cur}(h:oneOf 16 (ie ws) c=.ok v):c.rest=wd ws v.1++v.2.rest:=by
 obtain⟨w,hw,hr⟩:=ah3 _ _ _ v.1 v.2 h
 obtain⟨j,hj,e⟩:=List.mem_map.mp hw
 injection e with e1 e2
 subst e1
 rw[hr,<-e2]
theorem aqe{c:Cur}{v:Nat×Cur}(h:oneOf 16 (ie SIZES) c=.ok v):c.rest=digitsOf (5+v.1)++v.2.rest:=by
 have h1:=yq h
 have h2:v.1<9:=j8 h
 have:∀n:Fin 9,wd SIZES n.val=digitsOf (5+n.val):=by decide +kernel
 rw[h1,this ⟨v.1,h2⟩]
theorem aat(a b:String){k:Nat}(h:k<2):pick [a,b] ((k==1).toNat)=wd [ascii a,ascii b] k:=by
 match k,h with
 | 0,_=>rfl
 | 1,_=>rfl
theorem yt(l:List String)(k:Nat)(h:k<l.length):pick l k=wd (l.map ascii) k:=by
 unfold pick wd
 simp[List.getD,h]
theorem ae1(a:Bytes):line [a]=a++[10]:=rfl
theorem yo(a b:Bytes):line [a,b]=a++[32]++b++[10]:=by simp[line,LF]
theorem am6(a b c:Bytes):line [a,b,c]=a++[32]++b++[32]++c++[10]:=by simp[line,LF]
theorem ae2(a b c d:Bytes):line [a,b,c,d]=a++[32]++b++[32]++c++[32]++d++[10]:=by simp[line,LF]
theorem aae:ascii "tafl " = ascii "tafl" ++ [32]/\ascii "ground\n" = ascii "ground" ++ [10]/\ascii "start\n" = ascii "start" ++ [10]/\ascii "limit " = ascii "limit" ++ [32]:=by decide +kernel
theorem bindR{α β:Type}{x:Except Nat α}{f:α->Except Nat β}{r:β}(h:x >>= f=.ok r):∃a,x=.ok a/\f a=.ok r:=by
 cases x with
 | error q=>cases h
 | ok a=>exact⟨a,rfl,h⟩
theorem a0j{b:Bytes}{r:Rules}(h:grammar b=.ok r):printed r=b:=by
 rw[amj]at h
 unfold adf at h
 obtain⟨c0,e0,h⟩:=bindR h
 obtain⟨n,e1,h⟩:=bindR h
 obtain⟨c2,e2,h⟩:=bindR h
 obtain⟨w,e3,h⟩:=bindR h
 obtain⟨c4,e4,h⟩:=bindR h
 obtain⟨hh,e5,h⟩:=bindR h
 obtain⟨c6,e6,h⟩:=bindR h
 obtain⟨c7,e7,h⟩:=bindR h
 obtain⟨g,e8,h⟩:=bindR h
 obtain⟨c9,e9,h⟩:=bindR h
 obtain⟨s,e10,h⟩:=bindR h
 obtain⟨c11,e11,h⟩:=bindR h
 obtain⟨c12,e12,h⟩:=bindR h
 obtain⟨f,e13,h⟩:=bindR h
 obtain⟨c14,e14,h⟩:=bindR h
 obtain⟨c15,e15,h⟩:=bindR h
 obtain⟨c16,e16,h⟩:=bindR h
 obtain⟨k1,e17,h⟩:=bindR h
 obtain⟨c18,e18,h⟩:=bindR h
 obtain⟨k2,e19,h⟩:=bindR h
 obtain⟨c20,e20,h⟩:=bindR h
 obtain⟨k3,e21,h⟩:=bindR h
 obtain⟨c22,e22,h⟩:=bindR h
 obtain⟨c23,e23,h⟩:=bindR h
 obtain⟨c24,e24,h⟩:=bindR h
 obtain⟨t1,e25,h⟩:=bindR h
 obtain⟨c26,e26,h⟩:=bindR h
 obtain⟨t2,e27,h⟩:=bindR h
 obtain⟨c28,e28,h⟩:=bindR h
 obtain⟨c29,e29,h⟩:=bindR h
 obtain⟨c30,e30,h⟩:=bindR h
 obtain⟨x,e31,h⟩:=bindR h
 obtain⟨c32,e32,h⟩:=bindR h
 obtain⟨c33,e33,h⟩:=bindR h
 obtain⟨c34,e34,h⟩:=bindR h
 obtain⟨o,e35,h⟩:=bindR h
 obtain⟨c36,e36,h⟩:=bindR h
 obtain⟨c37,e37,h⟩:=bindR h
 obtain⟨c38,e38,h⟩:=bindR h
 obtain⟨t,e39,h⟩:=bindR h
 obtain⟨c40,e40,h⟩:=bindR h
 obtain⟨c41,e41,h⟩:=bindR h
 obtain⟨l,e42,h⟩:=bindR h
 obtain⟨c43,e43,h⟩:=bindR h
 split at h
 ·rename_i hr
  injection h with h
  have eb:b=(cur b 0).rest:=rfl
  rw[eb,iw _ _ _ e0,(ank (n:=n.1) (d:=n.2) e1).1,iw _ _ _ e2,aqe e3,iw _ _ _ e4,aqe e5,iw _ _ _ e6,iw _ _ _ e7,aiq am1 _ _ _ _ e8,iw _ _ _ e9,aiq aob _ _ _ _ e10,
   iw _ _ _ e11,iw _ _ _ e12,yq e13,iw _ _ _ e14,iw _ _ _ e15,iw _ _ _ e16,yq e17,iw _ _ _ e18,yq e19,iw _ _ _ e20,yq e21,iw _ _ _ e22,
   iw _ _ _ e23,iw _ _ _ e24,yq e25,iw _ _ _ e26,yq e27,iw _ _ _ e28,iw _ _ _ e29,iw _ _ _ e30,yq e31,iw _ _ _ e32,iw _ _ _ e33,iw _ _ _ e34,yq e35,iw _ _ _ e36,
   iw _ _ _ e37,iw _ _ _ e38,yq e39,iw _ _ _ e40,iw _ _ _ e41,axd (by decide) e42,iw _ _ _ e43,hr]
  subst h
  unfold printed
  dsimp only
  rw[yt _ _ (j8 e13),aat _ _ (j8 e17),aat _ _ (j8 e19),aat _ _ (j8 e21),aat _ _ (j8 e25),yt ENMITY _ (j8 e27),yt ENMITY _ (j8 e31),yt ["edge", "exits"] _ (j8 e35),yt _ _ (j8 e39),ae1,ae1,yo,yo,yo,yo,yo,am6,ae2,ae2,aae.1,aae.2.1,aae.2.2.1,aae.2.2.2]
  simp only[List.append_assoc,List.append_nil]
  rfl
 ·cases h
open Tafl TaflRules
theorem aos{α:Type}(byte:α->UInt8)(d:α)(y:Nat):∀(r:List α) (x p:Nat),abl byte y x p r=(List.range r.length).map λj=>(p+j,13*y+(x+j),byte (r.getD j d))
 | [],x,p=>rfl
 | k::r,x,p=>by
  rw[abl,aos byte d y r (x+1) (p+1),List.length_cons,List.range_succ_eq_map,List.map_cons,List.map_map]
  congr 1
  refine List.map_congr_left λj _=>?_
  show(p+1+j,13*y+(x+1+j),byte (r.getD j d))=(p+(j+1),13*y+(x+(j+1)),byte (r.getD j d))
  rw[show p+1+j=p+(j+1) by omega,show x+1+j=x+(j+1) by omega]
theorem agr{α:Type}(byte:α->UInt8)(d:α)(wide:Nat):∀(g:List (List α)) (gp:List Nat),g.length=gp.length->(∀x∈g,x.length=wide) ->
  aaf byte g gp=(List.range g.length).flatMap λi=>(List.range wide).map λx=>(gp.getD i 0+x,13*(g.length-1-i)+x,byte ((g.getD i []).getD x d))
 | [],[],_,_=>rfl
 | r::g,p::gp,hl,hw=>by
  have hl:g.length=gp.length:=by simpa using hl
  rw[aaf,agr byte d wide g gp hl (λx hx=>hw x (List.mem_cons_of_mem _ hx)),aos byte d,hw r (List.mem_cons_self ..),List.length_cons,List.range_succ_eq_map,List.flatMap_cons,List.flatMap_map]
  congr 1
  ·refine List.map_congr_left λx _=>?_
   show(p+x,13*g.length+(0+x),_)=(p+x,13*(g.length+1-1-0)+x,_)
   rw[Nat.zero_add]
   rfl
  ·refine congrArg (λf=>List.flatMap f _) (funext λi=>?_)
   refine List.map_congr_left λx _=>?_
   show(gp.getD i 0+x,13*(g.length-1-i)+x,_)=(gp.getD i 0+x,13*(g.length+1-1-(i+1))+x,_)
   rw[show g.length-1-i=g.length+1-1-(i+1) by omega]
   rfl
def sqG(r:Rules):List Sq:=r.asWritten.map λp=>(r.groundPlace p,cellOf p.1 p.2,kindByte (r.kind p.1 p.2))
def sqS(r:Rules):List Sq:=r.asWritten.map λp=>(r.startPlace p,cellOf p.1 p.2,pieceByte (r.piece p.1 p.2))
theorem aet{α β:Type}{f g:α->List β}:∀{l:List α},(∀x∈l,f x=g x)->l.flatMap f=l.flatMap g
 | [],_=>rfl
 | a::l,h=>by
  rw[List.flatMap_cons,List.flatMap_cons,h a (List.mem_cons_self ..),aet λx hx=>h x (List.mem_cons_of_mem _ hx)]
theorem aa2{s:Sh}{r:Rules}(h:kj s r):s.ground=sqG r:=by
 rw[h.ground,agr kindByte .wall r.wide r.ground r.groundAt (by rw[h.g1,h.g2]) h.g3,h.g1]
 unfold sqG Rules.asWritten
 rw[List.map_flatMap]
 refine aet λi hi=>?_
 have hi:=List.mem_range.mp hi
 rw[List.map_map]
 refine List.map_congr_left λx _=>?_
 have e:r.high-1-(r.high-1-i)=i:=by omega
 show _=(r.groundAt.getD (r.high-1-(r.high-1-i)) 0+x,13*(r.high-1-i)+x,kindByte ((r.ground.getD (r.high-1-(r.high-1-i)) []).getD x .wall))
 rw[e]
theorem acr{s:Sh}{r:Rules}(h:kj s r):s.start=sqS r:=by
 rw[h.start,agr pieceByte .none r.wide r.start r.startAt (by rw[h.s1,h.s2]) h.s3,h.s1]
 unfold sqS Rules.asWritten
 rw[List.map_flatMap]
 refine aet λi hi=>?_
 have hi:=List.mem_range.mp hi
 rw[List.map_map]
 refine List.map_congr_left λx _=>?_
 have e:r.high-1-(r.high-1-i)=i:=by omega
 show _=(r.startAt.getD (r.high-1-(r.high-1-i)) 0+x,13*(r.high-1-i)+x,pieceByte ((r.start.getD (r.high-1-(r.high-1-i)) []).getD x .none))
 rw[e]
theorem am0:∀a b:Kind,(kindByte a==kindByte b)=(a==b):=by
 intro a b
 cases a<;>cases b<;>rfl
theorem a0f:∀a b:Piece,(pieceByte a==pieceByte b)=(a==b):=by
 intro a b
 cases a<;>cases b<;>rfl
def jj(cs:List Sq)(c:UInt8):List Sq:=cs.filter λq=>q.2.2==c
theorem aqc(r:Rules)(k:Kind):jj (sqG r) (kindByte k)=(r.asWritten.filter λp=>r.kind p.1 p.2==k).map λp=>(r.groundPlace p,cellOf p.1 p.2,kindByte (r.kind p.1 p.2)):=by
 unfold jj sqG
 rw[List.filter_map]
 congr 1
 refine List.filter_congr λp _=>?_
 exact am0 _ _
theorem akb(r:Rules)(k:Piece):jj (sqS r) (pieceByte k)=(r.asWritten.filter λp=>r.piece p.1 p.2==k).map λp=>(r.startPlace p,cellOf p.1 p.2,pieceByte (r.piece p.1 p.2)):=by
 unfold jj sqS
 rw[List.filter_map]
 congr 1
 refine List.filter_congr λp _=>?_
 exact a0f _ _
theorem aor:∀n:Nat,((List.range n).map λi=>n-1-i).Perm (List.range n)
 | 0=>.refl _
 | n+1=>by
  rw[List.range_succ_eq_map,List.map_cons,List.map_map]
  have e:((λi=>n+1-1-i)∘Nat.succ)=λi=>n-1-i:=by
   funext i
   show n+1-1-(i+1)=n-1-i
   omega
  rw[e,<-List.range_succ_eq_map,List.range_succ]
  exact((aor n).cons _).trans (List.perm_append_singleton n (List.range n)).symm
theorem aa4(r:Rules):r.asWritten.Perm r.cells:=by
 unfold Rules.asWritten Rules.cells cellsOf
 have e:((List.range r.high).flatMap λ(i:Nat)=>(List.range r.wide).map λ(x:Nat)=>(x,r.high-1-i))=((List.range r.high).map λi=>r.high-1-i).flatMap λy=>(List.range r.wide).map λ(x:Nat)=>(x,y):=by
  rw[List.flatMap_map]
 rw[e]
 exact List.Perm.flatMap_right _ (aor _)
theorem alp(w h:Nat)(hw:w<=13):(cellsOf w h).Pairwise λp q=>cellOf p.1 p.2<cellOf q.1 q.2:=by
 unfold cellsOf
 rw[List.pairwise_flatMap]
 refine⟨λy _=>?_,?_⟩
 ·rw[List.pairwise_map]
  exact List.pairwise_lt_range.imp λ{a b} hab=>by show 13*y+a<13*y+b;omega
 ·refine List.pairwise_lt_range.imp λ{a b} hab=>?_
  intro x hx z hz
  obtain⟨i,hi,rfl⟩:=List.mem_map.mp hx
  obtain⟨j,hj,rfl⟩:=List.mem_map.mp hz
  have hi:=List.mem_range.mp hi
  show 13*a+i<13*b+j
  omega
theorem art{r:Rules}(hw:r.wide<=13)(q:Nat×Nat->Bool){ns:List Int}(hp:ns.Perm ((r.asWritten.filter q).map λp=>((cellOf p.1 p.2:Nat):Int)))(hs:ns.Pairwise (·<=·)):ns=asInts (numbers (r.cells.filter q)):=by
 refine List.Perm.eq_of_pairwise (le:=(·<=·)) (λa b _ _=>Int.le_antisymm) hs ?_ (hp.trans ?_)
 ·unfold asInts numbers
  rw[List.map_map,List.pairwise_map]
  refine List.Pairwise.imp ?_ (List.Pairwise.filter _ (alp r.wide r.high hw))
  intro a b hab
  show((cellOf a.1 a.2:Nat):Int)<=((cellOf b.1 b.2:Nat):Int)
  omega
 ·unfold asInts numbers
  rw[List.map_map]
  exact((aa4 r).filter q).map _
def placesOf(cs:List Sq)(c:UInt8):List Nat:=(jj cs c).map (·.1)
def yc(piece kind:UInt8):Bool:=if piece=46 then false else if kind=83 then piece != 75 else kind != 46
def vf(s:Sh):List (Nat×Nat):=((s.ground.zip s.start).filter λq=>yc q.2.2.2 q.1.2.2).map λq=>(q.2.1,3)
def zp(s:Sh)(cell:Nat):Bool:=decide (cell % 13=0)||decide (cell / 13=0)||decide (cell % 13+1=s.wide)||decide (cell / 13+1=s.high)
def u6(s:Sh):Bool:=match (jj s.start 75).head? with
 | some q=>zp s q.2.1
 | none=>false
def jy(s:Sh)(i:Nat):Nat:=(s.marks.getD i (0,0)).2
def uw(s:Sh):List (Nat×Nat):=if (if jy s 7=0 then u6 s else(placesOf s.ground 88).isEmpty)=true then[((s.marks.getD 7 (0,0)).1,5)] else[]
def abp(s:Sh):Bool:=decide (jy s 4≠1)||decide (jy s 5≠0)
def sr(s:Sh)(len:Nat):List (Nat×Nat):=if (placesOf s.start 75).isEmpty=true\/(placesOf s.start 104).isEmpty=true then[(len,6)] else if abp s=true/\(placesOf s.ground 83).isEmpty=true then[(len,6)] else[]
def aam(cs:List Sq)(c:UInt8)(k:Nat):List (Nat×Nat):=((placesOf cs c).drop 1).map λp=>(p,k)
def uz(s:Sh)(len:Nat):List (Nat×Nat):=aam s.ground 83 2++vf s++aam s.start 75 4++uw s++sr s len
theorem aic(r:Rules)(k:Kind):placesOf (sqG r) (kindByte k)=(r.asWritten.filter λp=>r.kind p.1 p.2==k).map r.groundPlace:=by
 unfold placesOf
 rw[aqc,List.map_map]
 rfl
theorem aid(r:Rules)(k:Piece):placesOf (sqS r) (pieceByte k)=(r.asWritten.filter λp=>r.piece p.1 p.2==k).map r.startPlace:=by
 unfold placesOf
 rw[akb,List.map_map]
 rfl
theorem ani{r:Rules}{α:Type}(l:List α)(f:α->Nat)(k:Nat):((l.map f).drop 1).map (λp=>(p,k))=((l.drop 1).map λp=>(k,f p)).map λq:Nat×Nat=>(q.2,q.1):=by
 rw[<-List.map_drop,List.map_map,List.map_map]
 rfl
theorem stands(r:Rules)(p:Nat×Nat):yc (pieceByte (r.piece p.1 p.2)) (kindByte (r.kind p.1 p.2))=r.misplaced p:=by
 unfold Rules.misplaced
 cases r.piece p.1 p.2<;>cases r.kind p.1 p.2<;>rfl
theorem a0h{s:Sh}{r:Rules}(h:kj s r):vf s=((r.asWritten.filter r.misplaced).map λp=>(3,r.startPlace p)).map λq:Nat×Nat=>(q.2,q.1):=by
 unfold vf
 rw[aa2 h,acr h]
 unfold sqG sqS
 rw[List.zip_map',List.filter_map,List.map_map,List.map_map]
 show List.map _ (List.filter (λp=>yc (pieceByte (r.piece p.1 p.2)) (kindByte (r.kind p.1 p.2))) r.asWritten)=_
 rw[List.filter_congr (λp _=>stands r p)]
 rfl
theorem ak2(r:Rules)(q:Nat×Nat->Bool):((r.asWritten.filter q).isEmpty)=!(r.cells.any q):=by
 have e:r.asWritten.any q=r.cells.any q:=(aa4 r).any_eq
 rw[<-e]
 cases h:r.asWritten.any q with
 | true =>
  rw[List.any_eq_true]at h
  obtain⟨x,hx,hq⟩:=h
  cases hf:r.asWritten.filter q with
  | nil =>
   have:=List.mem_filter.mpr ⟨hx,hq⟩
   rw[hf]at this
   cases this
  | cons a l=>rfl
 | false =>
  rw[List.any_eq_false]at h
  rw[List.filter_eq_nil_iff.mpr h]
  rfl
theorem aer{α β:Type}(f:α->β)(l:List α):(l.map f).isEmpty=l.isEmpty:=by cases l<;>rfl
theorem ahs{s:Sh}{r:Rules}(h:kj s r)(i:Nat):jy s i=([r.first,r.slides.toNat,r.armed.toNat,r.four.toNat,r.passed.toNat,r.seat,r.exits,r.goal,r.thrice]:List Nat).getD i 0:=by
 rw[<-h.marks]
 unfold jy
 rw[List.getD,List.getD,List.getElem?_map]
 cases s.marks[i]?<;>rfl
theorem a4y{r:Rules}{p:Nat×Nat}(h:p∈r.asWritten):p.1<r.wide/\p.2<r.high:=by
 unfold Rules.asWritten at h
 rw[List.mem_flatMap]at h
 obtain⟨i,hi,h⟩:=h
 obtain⟨x,hx,rfl⟩:=List.mem_map.mp h
 have hi:=List.mem_range.mp hi
 have hx:=List.mem_range.mp hx
 exact⟨hx,by show r.high-1-i<r.high;omega⟩
theorem aul{s:Sh}{r:Rules}(h:kj s r){p:Nat×Nat}(hp:p∈r.asWritten):zp s (cellOf p.1 p.2)=r.onEdge p:=by
 have hp:=a4y hp
 have hw:=h.w5.2
 have e1:(13*p.2+p.1) % 13=p.1:=by omega
 have e2:(13*p.2+p.1) / 13=p.2:=by omega
 unfold zp Rules.onEdge
 show(decide ((13*p.2+p.1) % 13=0)||decide ((13*p.2+p.1) / 13=0)||decide ((13*p.2+p.1) % 13+1=s.wide)||decide ((13*p.2+p.1) / 13+1=s.high))=_
 rw[e1,e2,h.wide,h.high]
 rfl
theorem av5{s:Sh}{r:Rules}(h:kj s r):u6 s=(r.kings.take 1).any r.onEdge:=by
 unfold u6 Rules.kings
 rw[acr h,show(75:UInt8)=pieceByte .king from rfl,akb]
 cases e:r.asWritten.filter λp=>r.piece p.1 p.2 == .king with
 | nil=>rfl
 | cons p l =>
  have hp:p∈r.asWritten:=(List.mem_filter.mp (by rw[e];exact List.mem_cons_self ..)).1
  show zp s (cellOf p.1 p.2)=(r.onEdge p||false)
  rw[aul h hp,Bool.or_false]
theorem au1{s:Sh}{r:Rules}(h:kj s r):uw s=(if (r.goal=1/\(r.cells.any λ(p:Nat×Nat)=>r.kind p.1 p.2 == .exit)=false)\/(r.goal=0/\(r.kings.take 1).any r.onEdge=true)then[(5,r.goalAt)] else[]).map λq:Nat×Nat=>(q.2,q.1):=by
 have hg:=h.goal
 unfold uw
 rw[ahs h 7,h.goalAt,av5 h,aa2 h,show(88:UInt8)=kindByte .exit from rfl,aic,aer,ak2]
 show(if (if r.goal=0 then _ else _)=true then _ else _)=_
 by_cases h0:r.goal=0
 ·rw[if_pos h0]
  by_cases h1:(r.kings.take 1).any r.onEdge=true
  ·rw[if_pos h1,if_pos (Or.inr ⟨h0,h1⟩)]
   rfl
  ·rw[if_neg h1,if_neg (by
    rintro(⟨z,_⟩ | ⟨_,z⟩)
    ·omega
    ·exact h1 z)]
   rfl
 ·rw[if_neg h0]
  have h1:r.goal=1:=by omega
  cases h2:(r.cells.any λ(p:Nat×Nat)=>r.kind p.1 p.2 == .exit)with
  | false =>
   rw[if_pos (by rfl),if_pos (Or.inl ⟨h1,rfl⟩)]
   rfl
  | true =>
   rw[if_neg (by decide),if_neg (by
    rintro(⟨_,z⟩ | ⟨z,_⟩)
    ·cases z
    ·exact h0 z)]
   rfl
theorem av7(K S:List (Nat×Nat))(B P:Bool)(seat len:Nat):(if K.isEmpty=true\/(!B)=true then[(len,6)] else if (decide (P.toNat≠1)||decide (seat≠0))=true/\S.isEmpty=true then[(len,6)] else[]) =
  (if K=[]\/B=false\/(S=[]/\¬(P=true/\seat=0))then[(6,len)] else[]).map λq:Nat×Nat=>(q.2,q.1):=by
 by_cases h0:seat=0
 ·rw[h0]
  cases K<;>cases S<;>cases B<;>cases P<;>rfl
 ·cases K<;>cases S<;>cases B<;>cases P<;>simp[h0]
theorem av8{s:Sh}{r:Rules}(h:kj s r)(len:Nat):sr s len=(if r.kings=[]\/(r.cells.any λ(p:Nat×Nat)=>r.piece p.1 p.2 == .hunter)=false\/(r.seats=[]/\¬(r.passed=true/\r.seat=0))then[(6,len)] else[]).map λq:Nat×Nat=>(q.2,q.1):=by
 unfold sr abp
 rw[ahs h 4,ahs h 5,aa2 h,acr h,show(75:UInt8)=pieceByte .king from rfl,show(104:UInt8)=pieceByte .hunter from rfl,show(83:UInt8)=kindByte .seat from rfl,aid,aid,aic,aer,aer,aer,ak2 r λp=>r.piece p.1 p.2 == .hunter]
 exact av7 r.kings r.seats _ r.passed r.seat len
theorem auv{s:Sh}{r:Rules}(h:kj s r)(len:Nat):uz s len=(wrongs len r).map λq:Nat×Nat=>(q.2,q.1):=by
 unfold uz wrongs
 rw[a0h h,au1 h,av8 h,aa2 h,acr h]
 unfold aam
 rw[show(83:UInt8)=kindByte .seat from rfl,show(75:UInt8)=pieceByte .king from rfl,aic,aid,ani (r:=r),ani (r:=r)]
 simp only[List.map_append,List.append_assoc]
 rfl
def before(a b:Nat×Nat):Bool:=decide (a.1<b.1)||(a.1==b.1&&decide (a.2<b.2))
def best(bt:Nat->Nat->Bool):Nat->Nat
 | 0=>0
 | k+1=>if bt (k+1) (best bt k)then k+1 else best bt k
theorem a2z(y x:Nat×Nat):sooner y x=!before (x.2,x.1) (y.2,y.1):=by
 unfold sooner before
 rw[Bool.eq_iff_iff]
 simp only[Bool.or_eq_true,Bool.and_eq_true,decide_eq_true_eq,beq_iff_eq,Bool.not_eq_true',Bool.or_eq_false_iff,decide_eq_false_iff_not,Bool.and_eq_false_iff,beq_eq_false_iff_ne]
 omega
def acj(m:Option (Nat×Nat))(x:Nat×Nat):Option (Nat×Nat):=match m with
 | some y=>if sooner y x=true then some y else some x
 | none=>some x
theorem ama(l:List (Nat×Nat)):firstOf l=l.foldl acj none:=rfl
theorem aej(bt:Nat->Nat->Bool):∀k,best bt k<=k
 | 0=>Nat.le_refl _
 | k+1=>by
  rw[best]
  split
  ·exact Nat.le_refl _
  ·exact Nat.le_succ_of_le (aej bt k)
theorem ak8(l:List (Nat×Nat)):∀k,k<l.length->(l.take (k+1)).foldl acj none=l[best (λi j=>before ((l.map λq:Nat×Nat=>(q.2,q.1)).getD i (0,0)) ((l.map λq:Nat×Nat=>(q.2,q.1)).getD j (0,0))) k]?
 | 0,h=>by
  cases l with
  | nil=>cases h
  | cons a l=>rfl
 | k+1,h=>by
  have ih:=ak8 l k (by omega)
  have hb:=aej (λi j=>before ((l.map λq:Nat×Nat=>(q.2,q.1)).getD i (0,0)) ((l.map λq:Nat×Nat=>(q.2,q.1)).getD j (0,0))) k
  rw[List.take_succ,List.getElem?_eq_getElem h,List.foldl_append,ih,best]
  generalize hB:best (λi j=>before ((l.map λq:Nat×Nat=>(q.2,q.1)).getD i (0,0)) ((l.map λq:Nat×Nat=>(q.2,q.1)).getD j (0,0))) k=B at hb
  have hB2:B<l.length:=by omega
  rw[List.getElem?_eq_getElem hB2]
  show acj (some l[B]) l[k+1]=_
  unfold acj
  dsimp only
  have e1:∀i (hi:i<l.length),(l.map λq:Nat×Nat=>(q.2,q.1)).getD i (0,0)=(l[i].2,l[i].1):=λi hi=>by
   simp[List.getD,hi]
  rw[e1 _ h,e1 _ hB2,a2z]
  cases before (l[k+1].2,l[k+1].1) (l[B].2,l[B].1)with
  | true =>
   rw[if_neg (by decide),if_pos rfl,List.getElem?_eq_getElem h]
  | false =>
   rw[if_pos (by rfl),if_neg (by decide),List.getElem?_eq_getElem hB2]
theorem aur{l:List (Nat×Nat)}(h:0<l.length):firstOf l=l[best (λi j=>before ((l.map λq:Nat×Nat=>(q.2,q.1)).getD i (0,0)) ((l.map λq:Nat×Nat=>(q.2,q.1)).getD j (0,0))) (l.length-1)]? := by
 rw[ama,<-ak8 l (l.length-1) (by omega),show l.length-1+1=l.length by omega,List.take_length]
theorem afn:∀(n:Nat) (s:Nat×Nat×Nat×Nat),quarters (n+1) s=quarter (quarters n s)
 | 0,s=>rfl
 | n+1,s=>by
  show quarters (n+1) (quarter s)=quarter (quarters n (quarter s))
  exact afn n (quarter s)
def InB(s:Nat×Nat×Nat×Nat):Prop:=s.2.2.1<s.1/\s.2.2.2<s.2.1
theorem InB.quarter{s:Nat×Nat×Nat×Nat}(h:InB s):InB (quarter s):=by
 obtain⟨h1,h2⟩:=h
 exact⟨h2,by show s.1-1-s.2.2.1<s.1;omega⟩
theorem InB.quarters{s:Nat×Nat×Nat×Nat}(h:InB s):∀n,InB (quarters n s)
 | 0=>h
 | n+1=>by
  rw[afn]
  exact(InB.quarters h n).quarter
theorem aka(s:Nat×Nat×Nat×Nat):∀n,((quarters n s).1,(quarters n s).2.1)=if n % 2=0 then(s.1,s.2.1)else(s.2.1,s.1)
 | 0=>rfl
 | n+1=>by
  rw[afn]
  have ih:=aka s n
  have e1:(quarters n s).1=(if n % 2=0 then(s.1,s.2.1)else(s.2.1,s.1)).1:=congrArg Prod.fst ih
  have e2:(quarters n s).2.1=(if n % 2=0 then(s.1,s.2.1)else(s.2.1,s.1)).2:=congrArg Prod.snd ih
  show((quarters n s).2.1,(quarters n s).1)=_
  rw[e1,e2]
  by_cases h:n % 2=0
  ·rw[if_pos h,if_neg (by omega)]
  ·rw[if_neg h,if_pos (by omega)]
def from_(t w h x y:Nat):Nat×Nat×Nat×Nat:=(w,h,if 4<=t then w-1-x else x,y)
theorem amg{t w h x y:Nat}(hx:x<w)(hy:y<h):InB (from_ t w h x y):=by
 refine⟨?_,hy⟩
 show(if 4<=t then w-1-x else x)<w
 split<;>omega
theorem age(t w h x y:Nat):turned t w h x y=quarters (t % 4) (from_ t w h x y):=rfl
def o4(w h t c:Nat):Nat:=cellOf (turned t w h (c % 13) (c / 13)).2.2.1 (turned t w h (c % 13) (c / 13)).2.2.2
theorem ar0{t w h x y:Nat}(hx:x<w)(hy:y<h):InB (turned t w h x y):=by
 rw[age]
 exact(amg hx hy).quarters _
theorem ar3(t w h x y:Nat)(ok:¬(w≠h/\t % 2=1)):(turned t w h x y).1=w/\(turned t w h x y).2.1=h:=by
 have e:=aka (from_ t w h x y) (t % 4)
 rw[<-age]at e
 have e1:=congrArg Prod.fst e
 have e2:=congrArg Prod.snd e
 by_cases ht:t % 2=0
 ·have:t % 4 % 2=0:=by omega
  rw[if_pos this]at e1 e2
  exact⟨e1,e2⟩
 ·have h4:t % 4 % 2≠0:=by omega
  have hwh:w=h:=by
   by_cases z:w=h
   ·exact z
   ·exact absurd ⟨z,by omega⟩ ok
  rw[if_neg h4]at e1 e2
  subst hwh
  exact⟨e1,e2⟩
theorem a4o(t w h x y:Nat)(n:w≠h)(ht:t % 2=1):(turned t w h x y).1≠w:=by
 have e:=aka (from_ t w h x y) (t % 4)
 rw[<-age]at e
 have e1:=congrArg Prod.fst e
 rw[if_neg (by omega)]at e1
 have e1:(turned t w h x y).1=h:=e1
 rw[e1]
 exact λz=>n z.symm
theorem as6(r:Rules)(q:Nat×Nat->Bool):r.cells.all q=r.asWritten.all q:=(aa4 r).symm.all_eq
theorem acd{r:Rules}{p:Nat×Nat}:p∈r.cells↔p.1<r.wide/\p.2<r.high:=by
 unfold Rules.cells cellsOf
 rw[List.mem_flatMap]
 constructor
 ·rintro⟨y,hy,h⟩
  obtain⟨x,hx,rfl⟩:=List.mem_map.mp h
  exact⟨List.mem_range.mp hx,List.mem_range.mp hy⟩
 ·rintro⟨h1,h2⟩
  exact⟨p.2,List.mem_range.mpr h2,List.mem_map.mpr ⟨p.1,List.mem_range.mpr h1,rfl⟩⟩
theorem ahu{r:Rules}{p:Nat×Nat}:p∈r.asWritten↔p.1<r.wide/\p.2<r.high:=by
 rw[(aa4 r).mem_iff]
 exact acd
def kindAt(r:Rules)(c:Nat):Kind:=r.kind (c % 13) (c / 13)
theorem aut(r:Rules)(t:Nat)(hw:5<=r.wide/\r.wide<=13)(hh:5<=r.high):r.fits t=if r.wide≠r.high/\t % 2=1 then false else r.asWritten.all λp=>kindByte (kindAt r (o4 r.wide r.high t (cellOf p.1 p.2)))==kindByte (kindAt r (cellOf p.1 p.2)):=by
 unfold Rules.fits
 split
 ·rename_i h
  rw[List.all_eq_false]
  refine⟨(0,0),acd.mpr ⟨by show 0<r.wide;omega,by show 0<r.high;omega⟩,?_⟩
  have:=a4o t r.wide r.high 0 0 h.1 h.2
  show ¬(((turned t r.wide r.high 0 0).1==r.wide)&&_)=true
  rw[beq_eq_false_iff_ne.mpr this]
  simp
 ·rename_i h
  rw[as6]
  rw[Bool.eq_iff_iff,List.all_eq_true,List.all_eq_true]
  have key:∀p∈r.asWritten,(let s:=turned t r.wide r.high p.1 p.2;s.1==r.wide&&(s.2.1==r.high&&r.kind s.2.2.1 s.2.2.2==r.kind p.1 p.2))=(kindByte (kindAt r (o4 r.wide r.high t (cellOf p.1 p.2)))==kindByte (kindAt r (cellOf p.1 p.2))):=λp hp=>by
   have hp:=ahu.mp hp
   have e1:cellOf p.1 p.2 % 13=p.1:=by show(13*p.2+p.1) % 13=p.1;omega
   have e2:cellOf p.1 p.2 / 13=p.2:=by show(13*p.2+p.1) / 13=p.2;omega
   have hs:=ar3 t r.wide r.high p.1 p.2 h
   have hb:=ar0 (t:=t) hp.1 hp.2
   unfold InB at hb
   rw[hs.1,hs.2]at hb
   have e3:o4 r.wide r.high t (cellOf p.1 p.2) % 13=(turned t r.wide r.high p.1 p.2).2.2.1:=by
    unfold o4
    rw[e1,e2]
    show(13*_+_) % 13=_
    omega
   have e4:o4 r.wide r.high t (cellOf p.1 p.2) / 13=(turned t r.wide r.high p.1 p.2).2.2.2:=by
    unfold o4
    rw[e1,e2]
    show(13*_+_) / 13=_
    omega
   dsimp only
   unfold kindAt
   rw[am0,e1,e2,e3,e4,hs.1,hs.2]
   simp
  constructor
  ·intro a p hp
   rw[<-key p hp]
   exact a p hp
  ·intro a p hp
   have:=a p hp
   rw[<-key p hp]at this
   exact this
theorem a4f{w h t c:Nat}(hw:w<=13)(ok:¬(w≠h/\t % 2=1))(hx:c % 13<w)(hy:c / 13<h):o4 w h t c % 13<w/\o4 w h t c / 13<h:=by
 have hs:=ar3 t w h (c % 13) (c / 13) ok
 have hb:=ar0 (t:=t) hx hy
 unfold InB at hb
 rw[hs.1,hs.2]at hb
 unfold o4
 constructor
 ·show(13*_+_) % 13<w
  omega
 ·show(13*_+_) / 13<h
  omega
def acv(t u:Int):Int:=(if 4<=u then u-t else u+t) % 4+(if (decide (4<=t) != decide (4<=u))=true then 4 else 0)
def ab0(t:Int):Int:=if 4<=t then t else -t % 4
theorem a4p(t u:Nat)(ht:t<8)(hu:u<8):acv t u=((turnTwo t u:Nat):Int):=by
 have:∀a b:Fin 8,acv a.val b.val=((turnTwo a.val b.val:Nat):Int):=by decide +kernel
 exact this ⟨t,ht⟩ ⟨u,hu⟩
theorem back_eq(t:Nat)(ht:t<8):ab0 t=((turnBack t:Nat):Int):=by
 have:∀a:Fin 8,ab0 a.val=((turnBack a.val:Nat):Int):=by decide +kernel
 exact this ⟨t,ht⟩
def aaj(a b c:List Nat)(x:Nat):UInt8:=if x∈c then 35 else if x∈b then 88 else if x∈a then 83 else 46
def aaz(king:Nat)(d e:List Nat)(x:Nat):UInt8:=if x=king then 75 else if x∈e then 109 else if x∈d then 104 else 46
def xm(w h:Nat)(sign:Nat->UInt8):Bytes:=(List.range h).flatMap λi=>((List.range w).map λx=>sign (13*(h-1-i)+x))++[10]
def chT(f:List Nat):Nat->List (List Bytes)->Bytes
 | _,[]=>[]
 | k,ws::r=>32::wd ws (f.getD k 0)++chT f (k+1) r
def lnT(f:List Nat):Nat->List Ln->Bytes
 | _,[]=>[]
 | k,l::r=>l.1++chT f k l.2++[10]++lnT f (k+l.2.length) r
def vd(n:Bytes)(f a b c d e:List Nat):Bytes:=ascii "tafl " ++ n++(([32]++digitsOf (f.getD 0 0)++[32]++digitsOf (f.getD 1 0)++ascii "\nground\n")++xm (f.getD 0 0) (f.getD 1 0) (aaj a b c)++ascii "start\n" ++ xm (f.getD 0 0) (f.getD 1 0) (aaz (f.getD 12 0) d e)++(lnT f 2 LINES++(ascii "limit " ++ digitsOf (f.getD 11 0)++[10])))
def n6:List (List Bytes):=LINES.flatMap (·.2)
def rn(f:List Nat):Bool:=decide (f.length=13)&&isSize (f.getD 0 0)&&isSize (f.getD 1 0)&&(((f.drop 2).take 9).zip n6).all λq=>decide (q.1<q.2.length)
structure Can(f:List Nat):Prop where
 len:f.length=13
 w:5<=f.getD 0 0/\f.getD 0 0<=13
 h:5<=f.getD 1 0/\f.getD 1 0<=13
 f2:f.getD 2 0<2
 f3:f.getD 3 0<2
 f4:f.getD 4 0<2
 f5:f.getD 5 0<2
 f6:f.getD 6 0<2
 f7:f.getD 7 0<4
 f8:f.getD 8 0<4
 f9:f.getD 9 0<2
 f10:f.getD 10 0<3
theorem avn(n:Nat):isSize n=true↔5<=n/\n<=13:=by
 unfold isSize
 simp
theorem thirteen{f:List Nat}(h:f.length=13):∃a0 a1 a2 a3 a4 a5 a6 a7 a8 a9 a10 a11 a12,f=[a0,a1,a2,a3,a4,a5,a6,a7,a8,a9,a10,a11,a12]:=by
 match f,h with
 | [a0,a1,a2,a3,a4,a5,a6,a7,a8,a9,a10,a11,a12],_=>exact⟨a0,a1,a2,a3,a4,a5,a6,a7,a8,a9,a10,a11,a12,rfl⟩
theorem ael(f:List Nat):rn f=true↔Can f:=by
 unfold rn
 simp only[Bool.and_eq_true,decide_eq_true_eq,avn]
 constructor
 ·rintro⟨⟨⟨h1,h2⟩,h3⟩,h4⟩
  obtain⟨a0,a1,a2,a3,a4,a5,a6,a7,a8,a9,a10,a11,a12,rfl⟩:=thirteen h1
  have h4:(decide (a2<2)&&(decide (a3<2)&&(decide (a4<2)&&(decide (a5<2)&&(decide (a6<2)&&(decide (a7<4)&&(decide (a8<4)&&(decide (a9<2)&&(decide (a10<3)&&true)))))))))=true:=h4
  simp only[Bool.and_eq_true,decide_eq_true_eq]at h4
  obtain⟨b2,b3,b4,b5,b6,b7,b8,b9,b10,_⟩:=h4
  exact⟨rfl,h2,h3,b2,b3,b4,b5,b6,b7,b8,b9,b10⟩
 ·intro c
  have h1:=c.len
  obtain⟨a0,a1,a2,a3,a4,a5,a6,a7,a8,a9,a10,a11,a12,rfl⟩:=thirteen h1
  refine⟨⟨⟨rfl,c.w⟩,c.h⟩,?_⟩
  show(decide (a2<2)&&(decide (a3<2)&&(decide (a4<2)&&(decide (a5<2)&&(decide (a6<2)&&(decide (a7<4)&&(decide (a8<4)&&(decide (a9<2)&&(decide (a10<3)&&true)))))))))=true
  simp only[Bool.and_eq_true,decide_eq_true_eq]
  exact⟨c.f2,c.f3,c.f4,c.f5,c.f6,c.f7,c.f8,c.f9,c.f10,trivial⟩
structure Apart(a b c d e:List Nat):Prop where
 ab:∀x∈a,x∉b
 ac:∀x∈a,x∉c
 bc:∀x∈b,x∉c
 de:∀x∈d,x∉e
theorem au3{a b c:List Nat}(ab:∀x∈a,x∉b)(ac:∀x∈a,x∉c)(bc:∀x∈b,x∉c)(x:Nat):aaj a b c x=kindByte (if a.contains x=true then Kind.seat else if b.contains x=true then .exit else if c.contains x=true then .wall else .plain):=by
 unfold aaj
 simp only[List.contains_iff_mem]
 by_cases ha:x∈a
 ·rw[if_neg (ac x ha),if_neg (ab x ha),if_pos ha,if_pos ha]
  rfl
 ·by_cases hb:x∈b
  ·rw[if_neg (bc x hb),if_pos hb,if_neg ha,if_pos hb]
   rfl
  ·by_cases hc:x∈c
   ·rw[if_pos hc,if_neg ha,if_neg hb,if_pos hc]
    rfl
   ·rw[if_neg hc,if_neg hb,if_neg ha,if_neg ha,if_neg hb,if_neg hc]
    rfl
theorem a3h{d e:List Nat}(de:∀x∈d,x∉e)(k x:Nat):aaz k d e x=pieceByte (if k=x then Piece.king else if d.contains x=true then .hunter else if e.contains x=true then .man else .none):=by
 unfold aaz
 simp only[List.contains_iff_mem]
 by_cases hk:k=x
 ·rw[if_pos hk.symm,if_pos hk]
  rfl
 ·rw[if_neg (λz=>hk z.symm),if_neg hk]
  by_cases hd:x∈d
  ·rw[if_neg (de x hd),if_pos hd,if_pos hd]
   rfl
  ·by_cases he:x∈e
   ·rw[if_pos he,if_neg hd,if_pos he]
    rfl
   ·rw[if_neg he,if_neg hd,if_neg hd,if_neg he]
    rfl
theorem alf{α:Type}(w h:Nat)(sign:Nat->UInt8)(byte:α->UInt8)(k:Nat->α)(e:∀x,sign x=byte (k x)):xm w h sign=((List.range h).map λ(i:Nat)=>(List.range w).map λ(x:Nat)=>k (cellOf x (h-1-i))).flatMap λ(l:List α)=>l.map byte++[LF]:=by
 unfold xm
 rw[List.flatMap_map]
 refine aet λi _=>?_
 rw[List.map_map]
 congr 1
 refine List.map_congr_left λx _=>?_
 exact e _
theorem am8{f:List Nat}:lnT f 2 LINES=(ascii "first" ++ (32::wd [ascii "hunters",ascii "king"] (f.getD 2 0)++[])++[10]++(ascii "king" ++ (32::wd [ascii "steps",ascii "slides"] (f.getD 3 0)++(32::wd [ascii "bare",ascii "armed"] (f.getD 4 0)++(32::wd [ascii "two",ascii "four"] (f.getD 5 0)++[])))++[10] ++
  (ascii "seat" ++ (32::wd [ascii "barred",ascii "passed"] (f.getD 6 0)++(32::wd [ascii "quiet",ascii "hunters",ascii "men",ascii "all"] (f.getD 7 0)++[]))++[10]++(ascii "exits" ++ (32::wd [ascii "quiet",ascii "hunters",ascii "men",ascii "all"] (f.getD 8 0)++[])++[10] ++
  (ascii "goal" ++ (32::wd [ascii "edge",ascii "exits"] (f.getD 9 0)++[])++[10]++(ascii "thrice" ++ (32::wd [ascii "drawn",ascii "hunters",ascii "king"] (f.getD 10 0)++[])++[10]++[])))))):=rfl
theorem a4x{n:Bytes}{f a b c d e:List Nat}(cf:Can f)(ap:Apart a b c d e):vd n f a b c d e=printed (rulesBy n f a b c d e):=by
 unfold vd printed rulesBy
 dsimp only
 rw[alf _ _ _ kindByte _ (au3 ap.ab ap.ac ap.bc),alf _ _ _ pieceByte _ (a3h ap.de _),am8]
 rw[yt ["hunters", "king"] _ cf.f2,aat _ _ cf.f3,aat _ _ cf.f4,aat _ _ cf.f5,aat _ _ cf.f6,yt ENMITY _ cf.f7,yt ENMITY _ cf.f8,yt ["edge", "exits"] _ cf.f9,yt ["drawn", "hunters", "king"] _ cf.f10,
  ae1,ae1,yo,yo,yo,yo,yo,am6,ae2,ae2,aae.1,aae.2.2.1,aae.2.2.2,ak1,aae.2.1]
 simp only[List.append_assoc,List.append_nil,List.cons_append,List.nil_append]
 rfl
theorem aln{w:Nat}(hw:w<=13){p q:Nat×Nat}(hp:p.1<w)(hq:q.1<w)(h:cellOf p.1 p.2=cellOf q.1 q.2):p=q:=by
 have h:13*p.2+p.1=13*q.2+q.1:=h
 have e1:p.1=q.1:=by omega
 have e2:p.2=q.2:=by omega
 exact Prod.ext e1 e2
theorem anf{r:Rules}{k:Kind}{x:Nat}:x∈kindCells r k↔∃p∈r.cells,r.kind p.1 p.2=k/\cellOf p.1 p.2=x:=by
 unfold kindCells numbers
 simp only[List.mem_map,List.mem_filter,beq_iff_eq,and_assoc]
theorem ang{r:Rules}{k:Piece}{x:Nat}:x∈pieceCells r k↔∃p∈r.cells,r.piece p.1 p.2=k/\cellOf p.1 p.2=x:=by
 unfold pieceCells numbers
 simp only[List.mem_map,List.mem_filter,beq_iff_eq,and_assoc]
theorem ahj{r:Rules}(hw:r.wide<=13){k j:Kind}(n:k≠j):∀x∈kindCells r k,x∉kindCells r j:=λx hx hy=>by
 obtain⟨p,hp,e1,e2⟩:=anf.mp hx
 obtain⟨q,hq,e3,e4⟩:=anf.mp hy
 have:=aln hw (acd.mp hp).1 (acd.mp hq).1 (e2.trans e4.symm)
 subst this
 exact n (e1.symm.trans e3)
theorem a0g{r:Rules}(hw:r.wide<=13){k j:Piece}(n:k≠j):∀x∈pieceCells r k,x∉pieceCells r j:=λx hx hy=>by
 obtain⟨p,hp,e1,e2⟩:=ang.mp hx
 obtain⟨q,hq,e3,e4⟩:=ang.mp hy
 have:=aln hw (acd.mp hp).1 (acd.mp hq).1 (e2.trans e4.symm)
 subst this
 exact n (e1.symm.trans e3)
theorem judge_ok{b:Bytes}{r:Rules}(h:Tafl.judge b=.ok r):grammar b=.ok r:=by
 unfold Tafl.judge at h
 split at h
 ·cases h
 ·split at h
  ·cases h
  ·injection h with h
   subst h
   assumption
theorem amk{b:Bytes}{r:Rules}(h:grammar b=.ok r):∃s,yx b=.ok s/\kj s r:=by
 have:=aqb b
 rw[h]at this
 cases e:yx b with
 | ok s=>rw[e]at this;exact⟨s,rfl,this⟩
 | error q=>rw[e]at this;exact this.elim
def told(r:Rules)(n:Bytes)(f a b c d e:List Nat):Prop:=r.name=n/\factsOf r=f/\[0,1,2,3,4].map (cellsBy r)=[a,b,c,d,e]
theorem ars{t:Bytes}{r:Rules}{n:Bytes}{f a b c d e:List Nat}(h:Tafl.judge t=.ok r)(ht:told r n f a b c d e):Can f/\Apart a b c d e:=by
 obtain⟨s,_,hs⟩:=amk (judge_ok h)
 obtain⟨_,h2,h3⟩:=ht
 subst h2
 have b2:∀x:Bool,x.toNat<2:=λx=>by cases x<;>decide
 refine⟨⟨rfl,hs.w5,hs.h5,hs.first,b2 _,b2 _,b2 _,b2 _,hs.seat,hs.exits,hs.goal,hs.thrice⟩,?_⟩
 have h3:[kindCells r .seat,kindCells r .exit,kindCells r .wall,pieceCells r .hunter,pieceCells r .man]=[a,b,c,d,e]:=h3
 injection h3 with ea h3
 injection h3 with eb h3
 injection h3 with ec h3
 injection h3 with ed h3
 injection h3 with ee h3
 subst ea eb ec ed ee
 exact⟨ahj hs.w5.2 (by decide),ahj hs.w5.2 (by decide),ahj hs.w5.2 (by decide),a0g hs.w5.2 (by decide)⟩
instance (r:Rules) (n:Bytes) (f a b c d e:List Nat):Decidable (told r n f a b c d e):=by
 unfold told
 exact inferInstance
def wg(n:Bytes)(f a b c d e:List Nat):Option Bytes:=if rn f=true then(match Tafl.judge (vd n f a b c d e)with
  | .ok r=>if told r n f a b c d e then some (vd n f a b c d e)else none
  | .error _=>none)else none
theorem aws(n:Bytes)(f a b c d e:List Nat):made n f a b c d e=wg n f a b c d e:=by
 have lhs:made n f a b c d e=if f.length=13/\5<=f.getD 0 0/\f.getD 0 0<=13/\5<=f.getD 1 0/\f.getD 1 0<=13 then(match Tafl.judge (printed (rulesBy n f a b c d e))with
  | .ok r=>if told r n f a b c d e then some (printed (rulesBy n f a b c d e))else none
  | .error _=>none)else none:=rfl
 rw[lhs]
 unfold wg
 by_cases hc:Can f
 ·rw[if_pos ((ael f).mpr hc),if_pos ⟨hc.len,hc.w.1,hc.w.2,hc.h.1,hc.h.2⟩]
  by_cases ha:Apart a b c d e
  ·rw[a4x hc ha]
  ·have no:∀t,(match Tafl.judge t with | .ok r=>if told r n f a b c d e then some t else none | .error _=>none)=none:=λt=>by
    cases e:Tafl.judge t with
    | error q=>rfl
    | ok r =>
     dsimp only
     rw[if_neg λz=>ha (ars e z).2]
   rw[no,no]
 ·rw[if_neg λz=>hc ((ael f).mp z)]
  split
  ·cases e:Tafl.judge (printed (rulesBy n f a b c d e))with
   | error q=>rfl
   | ok r =>
    dsimp only
    rw[if_neg λz=>hc (ars e z).1]
  ·rfl
theorem amb:∀(l:List (Nat×Nat)) (m:Option (Nat×Nat)),(l≠[]\/m.isSome=true)->(l.foldl acj m).isSome=true
 | [],m,h=>h.elim (λz=>absurd rfl z) id
 | x::l,m,h=>by
  rw[List.foldl_cons]
  refine amb l _ (.inr ?_)
  unfold acj
  cases m with
  | none=>rfl
  | some y =>
   dsimp only
   split<;>rfl
theorem aus{l:List (Nat×Nat)}(h:firstOf l=none):l=[]:=by
 cases e:l with
 | nil=>rfl
 | cons x r =>
  have:=amb l none (.inl (by rw[e];simp))
  rw[<-ama,h]at this
  cases this
def aai(l:List (Nat×Nat)):Nat×Nat:=l.getD (best (λi j=>before (l.getD i (0,0)) (l.getD j (0,0))) (l.length-1)) (0,0)
theorem avu{b:Bytes}{s:Sh}{r:Rules}(hg:grammar b=.ok r)(hs:kj s r):Tafl.judge b=if uz s b.length=[] then .ok r else .error ((aai (uz s b.length)).2,(aai (uz s b.length)).1):=by
 unfold Tafl.judge
 rw[hg]
 dsimp only
 rw[auv hs]
 generalize wrongs b.length r=l
 by_cases hl:l=[]
 ·subst hl
  rfl
 ·have h0:0<l.length:=List.length_pos_iff.mpr hl
  rw[if_neg (by simpa using hl),aur h0]
  have hb:=aej (λi j=>before ((l.map λq:Nat×Nat=>(q.2,q.1)).getD i (0,0)) ((l.map λq:Nat×Nat=>(q.2,q.1)).getD j (0,0))) (l.length-1)
  unfold aai
  rw[List.length_map]
  generalize hB:best (λi j=>before ((l.map λq:Nat×Nat=>(q.2,q.1)).getD i (0,0)) ((l.map λq:Nat×Nat=>(q.2,q.1)).getD j (0,0))) (l.length-1)=B at hb
  have hB2:B<l.length:=by omega
  rw[List.getElem?_eq_getElem hB2]
  simp[List.getD,hB2]
theorem a5b{b:Bytes}{r:Rules}(h:Tafl.judge b=.ok r):wrongs b.length r=[]:=by
 have hg:=judge_ok h
 unfold Tafl.judge at h
 rw[hg]at h
 dsimp only at h
 cases e:firstOf (wrongs b.length r)with
 | none=>exact aus e
 | some f=>rw[e]at h;cases h
theorem azj{b:Bytes}{r:Rules}(h:Tafl.judge b=.ok r):∃k,pieceCells r .king=[k]:=by
 have hw:=a5b h
 unfold wrongs at hw
 have h1:=(List.append_eq_nil_iff.mp hw).2
 have h2:=(List.append_eq_nil_iff.mp h1).2
 have h3:=(List.append_eq_nil_iff.mp h2).1
 have h4:=(List.append_eq_nil_iff.mp (List.append_eq_nil_iff.mp h2).2).2
 have k1:r.kings.drop 1=[]:=List.map_eq_nil_iff.mp h3
 have k0:r.kings≠[]:=λz=>by
  rw[if_pos (.inl z)]at h4
  cases h4
 have kl:r.kings.length=1:=by
  have:=congrArg List.length k1
  rw[List.length_drop,List.length_nil]at this
  have:=List.length_pos_iff.mpr k0
  omega
 have pl:(pieceCells r .king).length=1:=by
  unfold pieceCells numbers
  rw[List.length_map]
  have:=((aa4 r).filter λp:Nat×Nat=>r.piece p.1 p.2 == .king).length_eq
  rw[<-this]
  exact kl
 match e:pieceCells r .king,pl with
 | [k],_=>exact⟨k,rfl⟩
theorem facts_eq{b:Bytes}{r:Rules}{s:Sh}(hj:Tafl.judge b=.ok r)(h:kj s r):[s.wide,s.high]++s.marks.map (·.2)++[s.limit]++pieceCells r .king=factsOf r:=by
 obtain⟨k,hk⟩:=azj hj
 unfold factsOf
 rw[h.marks,h.wide,h.high,h.limit,hk]
 rfl
theorem af7(r:Rules):(sqG r).length=r.high*r.wide/\(sqS r).length=r.high*r.wide:=by
 have e:r.asWritten.length=r.high*r.wide:=by
  unfold Rules.asWritten
  rw[List.length_flatMap]
  simp only[List.length_map,List.length_range]
  have:∀n:Nat,((List.range n).map λ_=>r.wide).sum=n*r.wide:=λn=>by
   induction n with
   | zero=>simp
   | succ n ih=>rw[List.range_succ,List.map_append,List.sum_append,ih,Nat.succ_mul];rfl
  exact this _
 unfold sqG sqS
 rw[List.length_map,List.length_map,e]
 exact⟨rfl,rfl⟩
theorem a2q{s:Sh}{r:Rules}(h:kj s r):s.ground.length<=169/\s.start.length<=169/\s.marks.length=9/\s.ground.length=s.start.length:=by
 have hm:=congrArg List.length h.marks
 rw[List.length_map]at hm
 rw[aa2 h,acr h,(af7 r).1,(af7 r).2]
 have:=Nat.mul_le_mul h.h5.2 h.w5.2
 exact⟨this,this,hm,rfl⟩
def yj(r:Rules):List (List Nat):=[kindCells r .seat,kindCells r .exit,kindCells r .wall,pieceCells r .hunter,pieceCells r .man]
theorem kind_len(r:Rules)(k:Kind):(kindCells r k).length<=r.high*r.wide:=by
 unfold kindCells numbers
 rw[List.length_map]
 refine Nat.le_trans (List.length_filter_le _ _) ?_
 rw[<-(aa4 r).length_eq]
 have:=(af7 r).1
 unfold sqG at this
 rw[List.length_map]at this
 omega
theorem aib(r:Rules)(k:Piece):(pieceCells r k).length<=r.high*r.wide:=by
 unfold pieceCells numbers
 rw[List.length_map]
 refine Nat.le_trans (List.length_filter_le _ _) ?_
 rw[<-(aa4 r).length_eq]
 have:=(af7 r).1
 unfold sqG at this
 rw[List.length_map]at this
 omega
theorem aim{s:Sh}{r:Rules}(h:kj s r)(k:Kind){ns:List Int}(hp:ns.Perm ((jj s.ground (kindByte k)).map λq=>(q.2.1:Int)))(hs:ns.Pairwise (·<=·)):ns=asInts (kindCells r k):=by
 refine art h.w5.2 _ (hp.trans ?_) hs
 rw[aa2 h,aqc,List.map_map]
 exact .refl _
theorem ain{s:Sh}{r:Rules}(h:kj s r)(k:Piece){ns:List Int}(hp:ns.Perm ((jj s.start (pieceByte k)).map λq=>(q.2.1:Int)))(hs:ns.Pairwise (·<=·)):ns=asInts (pieceCells r k):=by
 refine art h.w5.2 _ (hp.trans ?_) hs
 rw[acr h,akb,List.map_map]
 exact .refl _
theorem alo{r:Rules}(hw:r.wide<=13):((sqG r).map (·.2.1)).Nodup:=by
 have e:(sqG r).map (·.2.1)=r.asWritten.map λp=>cellOf p.1 p.2:=by
  unfold sqG
  rw[List.map_map]
  rfl
 rw[e]
 have hp:(r.asWritten.map λp=>cellOf p.1 p.2).Perm (r.cells.map λp=>cellOf p.1 p.2):=(aa4 r).map _
 rw[hp.nodup_iff]
 have:=alp r.wide r.high hw
 unfold List.Nodup
 rw[List.pairwise_map]
 exact this.imp λ{a b} h=>Nat.ne_of_lt h
theorem atp{f:List Nat}(c:Can f):∀(k:Nat) (ws:List Bytes),n6[k]? = some ws->f.getD (2+k) 0<ws.length
 | 0,ws,h=>by cases h;exact c.f2
 | 1,ws,h=>by cases h;exact c.f3
 | 2,ws,h=>by cases h;exact c.f4
 | 3,ws,h=>by cases h;exact c.f5
 | 4,ws,h=>by cases h;exact c.f6
 | 5,ws,h=>by cases h;exact c.f7
 | 6,ws,h=>by cases h;exact c.f8
 | 7,ws,h=>by cases h;exact c.f9
 | 8,ws,h=>by cases h;exact c.f10
 | k+9,ws,h=>by cases h
theorem alq(f:List Nat):∀(cs:List (List Bytes)) (k:Nat) (ws:List Bytes),chT f k (cs++[ws])=chT f k cs++(32::wd ws (f.getD (k+cs.length) 0))
 | [],k,ws=>by
  show 32::wd ws (f.getD k 0)++[]=_
  rw[List.append_nil]
  rfl
 | c::cs,k,ws=>by
  show 32::wd c (f.getD k 0)++chT f (k+1) (cs++[ws])=(32::wd c (f.getD k 0)++chT f (k+1) cs)++_
  rw[alq f cs (k+1) ws,List.append_assoc,List.length_cons,show k+1+cs.length=k+(cs.length+1) by omega]
theorem ana(f:List Nat):∀(ls:List Ln) (k:Nat) (l:Ln),lnT f k (ls++[l])=lnT f k ls++(l.1++chT f (k+(ls.flatMap (·.2)).length) l.2++[10])
 | [],k,l=>by
  show l.1++chT f k l.2++[10]++[]=_
  rw[List.append_nil]
  rfl
 | m::ls,k,l=>by
  show m.1++chT f k m.2++[10]++lnT f (k+m.2.length) (ls++[l])=(m.1++chT f k m.2++[10]++lnT f (k+m.2.length) ls)++_
  rw[ana f ls (k+m.2.length) l,List.flatMap_cons,List.length_append,show k+m.2.length+(ls.flatMap (·.2)).length=k+(m.2.length+(ls.flatMap (·.2)).length) by omega]
  simp only[List.append_assoc]
def bI(t:Bytes):List Int:=t.map λx=>(x.toNat:Int)
def Sem(n:Nat)(s:Option Rules)(inp:List Int)(out:List Int)(s':Option Rules)(rest:List Int):Prop:=∃c,PyFlat.call PyWqaccy.shape ((n:Int)::inp)=some (c,rest)/\TaflRulesNeutral.asked1 (PyWqaccy.whole c)=true/\TaflRulesNeutral.step s (PyWqaccy.whole c)=(s',out)
theorem row_inv{inp x t:List Int}(h:PyFlat.row inp=some (x,t)):∃m:Nat,∃r,inp=(m:Int)::r/\m<=r.length/\x=r.take m/\t=r.drop m:=by
 match inp,h with
 | n::r,h =>
  rw[PyFlat.row]at h
  split at h
  ·rename_i hn
   injection h with h
   injection h with h1 h2
   exact⟨n.toNat,r,by rw[show((n.toNat:Nat):Int)=n by omega],hn.2,h1.symm,h2.symm⟩
  ·cases h
theorem rows_inv{k:Nat}{inp:List Int}{xs:List (List Int)}{t:List Int}(h:PyFlat.rows (k+1) inp=some (xs,t)):∃x r ys,PyFlat.row inp=some (x,r)/\PyFlat.rows k r=some (ys,t)/\xs=x::ys:=by
 rw[PyFlat.rows]at h
 split at h
 ·cases h
 ·rename_i x r e
  split at h
  ·cases h
  ·rename_i ys t' e2
   injection h with h
   injection h with h1 h2
   subst h1 h2
   exact⟨x,r,ys,e,e2,rfl⟩
theorem abn{inp:List Int}{xs:List (List Int)}{t:List Int}(h:PyFlat.rows 0 inp=some (xs,t)):xs=[]/\t=inp:=by
 injection h with h
 injection h with h1 h2
 exact⟨h1.symm,h2.symm⟩
theorem call_inv{n:Nat}{a b:Nat}{inp:List Int}{c:List (List Int)}{t:List Int}(hs:PyWqaccy.shape (n:Int)=some (a,b))(h:PyFlat.call PyWqaccy.shape ((n:Int)::inp)=some (c,t)):a<=inp.length/\∃xs,PyFlat.rows b (inp.drop a)=some (xs,t)/\c=((n:Int)::inp.take a)::xs:=by
 rw[PyFlat.call,hs]at h
 dsimp only at h
 split at h
 ·cases h
 ·rename_i hl
  split at h
  ·cases h
  ·rename_i xs t' e
   injection h with h
   injection h with h1 h2
   subst h1 h2
   exact⟨by omega,xs,e,rfl⟩
theorem arp{l:List Int}(h:(l.all λ(z:Int)=>decide (0<=z)&&decide (z<=255))=true):∃t:Bytes,text? l=some t/\l=bI t/\t.length=l.length:=by
 refine⟨l.map λ(n:Int)=>UInt8.ofNat n.toNat,?_,?_,List.length_map ..⟩
 ·unfold text? NeutralIO.bytes
  rw[if_pos h]
 ·unfold bI
  rw[List.map_map]
  symm
  conv=>rhs;rw[<-List.map_id l]
  refine List.map_congr_left λz hz=>?_
  have:=List.all_eq_true.mp h z hz
  simp only[Bool.and_eq_true,decide_eq_true_eq]at this
  show((UInt8.ofNat z.toNat).toNat:Int)=z
  rw[UInt8.toNat_ofNat_of_lt' (by show z.toNat<256;omega)]
  omega
theorem abm:∀{l:List Int},(l.all λ(z:Int)=>decide (0<=z))=true->∃ns:List Nat,row? l=some ns/\l=asInts ns
 | [],_=>⟨[],rfl,rfl⟩
 | z::l,h=>by
  rw[List.all_cons,Bool.and_eq_true,decide_eq_true_eq]at h
  obtain⟨ns,h1,h2⟩:=abm h.2
  refine⟨z.toNat::ns,?_,?_⟩
  ·unfold row? at h1 ⊢
   rw[List.mapM_cons,h1]
   show(nat? z).bind _=_
   unfold nat?
   rw[if_pos h.1]
   rfl
  ·show z::l=((z.toNat:Nat):Int)::asInts ns
   rw[<-h2,show((z.toNat:Nat):Int)=z by omega]
theorem aao{z:Int}(h:0<=z):∃k:Nat,z=(k:Int)/\nat? z=some k:=⟨z.toNat,by omega,by unfold nat?;rw[if_pos h]⟩
theorem abu{s:Option Rules}{c:List (List Int)}{x:TaflRules.Call}{s':Option Rules}{out:List Int}(hc:TaflRulesNeutral.callOf c=some x)(h:TaflRulesNeutral.step s c=(s',out)):s'=(TaflRules.step s x).1/\out=(TaflRules.step s x).2.nums:=by
 unfold TaflRulesNeutral.step at h
 rw[hc]at h
 injection h with h1 h2
 exact⟨h1.symm,h2.symm⟩
theorem ah1(b:Bytes):(tells 0 [.text b]).nums=0::(b.length:Int)::bI b:=by
 show(0:Int)::(((b.length:Int)::bI b)++[])=_
 rw[List.append_nil]
theorem ah0(l:List Nat):(tells 0 [.list l]).nums=0::(l.length:Int)::asInts l:=by
 show(0:Int)::(((l.length:Int)::asInts l)++[])=_
 rw[List.append_nil]
theorem a2i{s s':Option Rules}{inp out rest:List Int}(h:Sem 0 s inp out s' rest):∃(m:Nat) (r:List Int) (t:Bytes),inp=(m:Int)::r/\m<=r.length/\rest=r.drop m/\r.take m=bI t/\t.length=m /\
  (match Tafl.judge t with | .error (k,p)=>s'=s/\out=[-6,(k:Int),(p:Int)] | .ok ru=>s'=some ru/\out=[0]):=by
 obtain⟨c,h1,h2,h3⟩:=h
 obtain⟨_,xs,h4,rfl⟩:=call_inv (a:=0) (b:=1) rfl h1
 rw[List.drop_zero]at h4
 obtain⟨x,r,ys,h5,h6,rfl⟩:=rows_inv h4
 obtain⟨rfl,rfl⟩:=abn h6
 obtain⟨m,r,rfl,hm,rfl,rfl⟩:=row_inv h5
 obtain⟨t,e1,e2,e3⟩:=arp (l:=r.take m) h2
 have hc:TaflRulesNeutral.callOf (PyWqaccy.whole [[((0:Nat):Int)],r.take m])=some (.rules t):=by
  show(text? (r.take m)).map _=_
  rw[e1]
  rfl
 obtain⟨rfl,rfl⟩:=abu hc h3
 refine⟨m,r,t,rfl,hm,rfl,e2,by rw[e3,List.length_take];omega,?_⟩
 have es:TaflRules.step s (.rules t)=(match Tafl.judge t with | .error (k,p)=>(s,fault (-6) k p) | .ok r=>(some r,says 0)):=rfl
 rw[es]
 cases e:Tafl.judge t with
 | error kp =>
  obtain⟨k,p⟩:=kp
  exact⟨rfl,rfl⟩
 | ok ru=>exact⟨rfl,rfl⟩
theorem af0{n:Nat}{x:TaflRules.Call}{s s':Option Rules}{inp out rest:List Int}(hs:PyWqaccy.shape (n:Int)=some (0,0))(hc:TaflRulesNeutral.callOf (PyWqaccy.whole [[(n:Int)]])=some x)(h:Sem n s inp out s' rest):inp=rest/\s'=(TaflRules.step s x).1/\out=(TaflRules.step s x).2.nums:=by
 obtain⟨c,h1,h2,h3⟩:=h
 obtain⟨_,xs,h4,rfl⟩:=call_inv (a:=0) (b:=0) hs h1
 rw[List.drop_zero]at h4
 obtain⟨rfl,rfl⟩:=abn h4
 have z:=abu hc h3
 exact⟨rfl,z⟩
def ofR(s:Option Rules)(f:Rules->List Int):List Int:=match s with | none=>[-3] | some r=>f r
theorem adm(s:Option Rules)(f:Rules->Answer):(ofRules s f).2.nums=ofR s λr=>(f r).nums:=by
 cases s<;>rfl
theorem a2h{s s':Option Rules}{inp out rest:List Int}(h:Sem 1 s inp out s' rest):inp=rest/\s'=s/\out=ofR s λr=>0::(r.name.length:Int)::bI r.name:=by
 obtain⟨a,b,c⟩:=af0 (x:=.name) rfl rfl h
 refine⟨a,b,c.trans ((adm s _).trans (congrArg (ofR s) (funext λr=>ah1 _)))⟩
theorem a2f{s s':Option Rules}{inp out rest:List Int}(h:Sem 2 s inp out s' rest):inp=rest/\s'=s/\out=ofR s λr=>0::((factsOf r).length:Int)::asInts (factsOf r):=by
 obtain⟨a,b,c⟩:=af0 (x:=.facts) rfl rfl h
 refine⟨a,b,c.trans ((adm s _).trans (congrArg (ofR s) (funext λr=>ah0 _)))⟩
theorem a2l{s s':Option Rules}{inp out rest:List Int}(h:Sem 4 s inp out s' rest):inp=rest/\s'=s/\out=ofR s λr=>0::(r.turns.length:Int)::asInts r.turns:=by
 obtain⟨a,b,c⟩:=af0 (x:=.turns) rfl rfl h
 refine⟨a,b,c.trans ((adm s _).trans (congrArg (ofR s) (funext λr=>ah0 _)))⟩
theorem a2j{s s':Option Rules}{inp out rest:List Int}(h:Sem 5 s inp out s' rest):inp=rest/\s'=s/\out=ofR s λr=>0::((printed r).length:Int)::bI (printed r):=by
 obtain⟨a,b,c⟩:=af0 (x:=.text) rfl rfl h
 refine⟨a,b,c.trans ((adm s _).trans (congrArg (ofR s) (funext λr=>ah1 _)))⟩
theorem aap{inp:List Int}(h:1<=inp.length):∃x r,inp=x::r:=by
 match inp,h with
 | x::r,_=>exact⟨x,r,rfl⟩
theorem a2e{s s':Option Rules}{inp out rest:List Int}(h:Sem 3 s inp out s' rest):∃k:Nat,inp=(k:Int)::rest/\s'=s/\out=ofR s λr=>if 4<k then[-1] else 0::((cellsBy r k).length:Int)::asInts (cellsBy r k):=by
 obtain⟨c,h1,h2,h3⟩:=h
 obtain⟨hl,xs,h4,rfl⟩:=call_inv (a:=1) (b:=0) rfl h1
 obtain⟨x,r,rfl⟩:=aap hl
 obtain⟨rfl,rfl⟩:=abn h4
 have h2:decide (0<=x)=true:=h2
 obtain⟨k,rfl,e⟩:=aao (of_decide_eq_true h2)
 have hc:TaflRulesNeutral.callOf (PyWqaccy.whole [[((3:Nat):Int),(k:Int)]])=some (.cells k):=by
  show(nat? (k:Int)).map _=_
  rw[e]
  rfl
 obtain⟨rfl,rfl⟩:=abu hc h3
 refine⟨k,rfl,rfl,(adm _ _).trans (congrArg (ofR _) (funext λr=>?_))⟩
 split
 ·rfl
 ·exact ah0 _
theorem a2m{s s':Option Rules}{inp out rest:List Int}(h:Sem 8 s inp out s' rest):∃t u:Nat,inp=(t:Int)::(u:Int)::rest/\s'=s/\out=if 7<t\/7<u then[-1] else[((turnTwo t u:Nat):Int)]:=by
 obtain⟨c,h1,h2,h3⟩:=h
 obtain⟨hl,xs,h4,rfl⟩:=call_inv (a:=2) (b:=0) rfl h1
 obtain⟨x,r,rfl⟩:=aap (by omega:1<=inp.length)
 obtain⟨y,r,rfl⟩:=aap (by rw[List.length_cons]at hl;omega:1<=r.length)
 obtain⟨rfl,rfl⟩:=abn h4
 have h2:(decide (0<=x)&&decide (0<=y))=true:=h2
 simp only[Bool.and_eq_true,decide_eq_true_eq]at h2
 obtain⟨t,rfl,e1⟩:=aao h2.1
 obtain⟨u,rfl,e2⟩:=aao h2.2
 have hc:TaflRulesNeutral.callOf (PyWqaccy.whole [[((8:Nat):Int),(t:Int),(u:Int)]])=some (.two t u):=by
  show(do return TaflRules.Call.two (<-nat? (t:Int)) (<-nat? (u:Int)))=_
  rw[e1,e2]
  rfl
 obtain⟨rfl,rfl⟩:=abu hc h3
 refine⟨t,u,rfl,rfl,?_⟩
 show(if 7<t\/7<u then says (-1)else says (turnTwo t u:Nat)).nums=_
 split<;>rfl
theorem a2d{s s':Option Rules}{inp out rest:List Int}(h:Sem 9 s inp out s' rest):∃t:Nat,inp=(t:Int)::rest/\s'=s/\out=if 7<t then[-1] else[((turnBack t:Nat):Int)]:=by
 obtain⟨c,h1,h2,h3⟩:=h
 obtain⟨hl,xs,h4,rfl⟩:=call_inv (a:=1) (b:=0) rfl h1
 obtain⟨x,r,rfl⟩:=aap hl
 obtain⟨rfl,rfl⟩:=abn h4
 have h2:decide (0<=x)=true:=h2
 obtain⟨t,rfl,e⟩:=aao (of_decide_eq_true h2)
 have hc:TaflRulesNeutral.callOf (PyWqaccy.whole [[((9:Nat):Int),(t:Int)]])=some (.back t):=by
  show(nat? (t:Int)).map _=_
  rw[e]
  rfl
 obtain⟨rfl,rfl⟩:=abu hc h3
 refine⟨t,rfl,rfl,?_⟩
 show(if 7<t then says (-1)else says (turnBack t:Nat)).nums=_
 split<;>rfl
theorem a2k{s s':Option Rules}{inp out rest:List Int}(h:Sem 7 s inp out s' rest):∃w g t c:Nat,inp=(w:Int)::(g:Int)::(t:Int)::(c:Int)::rest/\s'=s /\
  out=if isSize w=false\/isSize g=false\/7<t\/w<=c % 13\/g<=c / 13 then[-1] else[((o4 w g t c:Nat):Int)]:=by
 obtain⟨c,h1,h2,h3⟩:=h
 obtain⟨hl,xs,h4,rfl⟩:=call_inv (a:=4) (b:=0) rfl h1
 obtain⟨x,r,rfl⟩:=aap (by omega:1<=inp.length)
 rw[List.length_cons]at hl
 obtain⟨y,r,rfl⟩:=aap (by omega:1<=r.length)
 rw[List.length_cons]at hl
 obtain⟨z,r,rfl⟩:=aap (by omega:1<=r.length)
 rw[List.length_cons]at hl
 obtain⟨v,r,rfl⟩:=aap (by omega:1<=r.length)
 obtain⟨rfl,rfl⟩:=abn h4
 have h2:(decide (0<=x)&&(decide (0<=y)&&(decide (0<=z)&&decide (0<=v))))=true:=h2
 simp only[Bool.and_eq_true,decide_eq_true_eq]at h2
 obtain⟨w,rfl,e1⟩:=aao h2.1
 obtain⟨g,rfl,e2⟩:=aao h2.2.1
 obtain⟨t,rfl,e3⟩:=aao h2.2.2.1
 obtain⟨c,rfl,e4⟩:=aao h2.2.2.2
 have hc:TaflRulesNeutral.callOf (PyWqaccy.whole [[((7:Nat):Int),(w:Int),(g:Int),(t:Int),(c:Int)]])=some (.turn w g t c):=by
  show(do return TaflRules.Call.turn (<-nat? (w:Int)) (<-nat? (g:Int)) (<-nat? (t:Int)) (<-nat? (c:Int)))=_
  rw[e1,e2,e3,e4]
  rfl
 obtain⟨rfl,rfl⟩:=abu hc h3
 refine⟨w,g,t,c,rfl,rfl,?_⟩
 show(if isSize w=false\/isSize g=false\/7<t\/w<=c % STRIDE\/g<=c / STRIDE then says (-1)else _).nums=_
 have e:∀p:Prop,[Decidable p]->(if p then says (-1)else(let x:=turned t w g (c % STRIDE) (c / STRIDE);says (cellOf x.2.2.1 x.2.2.2:Nat))).nums=if p then[-1] else[((o4 w g t c:Nat):Int)]:=λp _=>by
  split<;>rfl
 exact e _
theorem a2g{s s':Option Rules}{inp out rest:List Int}(h:Sem 6 s inp out s' rest):∃(n:Bytes) (f a b c d e:List Nat) (r1 r2 r3 r4 r5 r6:List Int),PyFlat.row inp=some (bI n,r1)/\PyFlat.row r1=some (asInts f,r2)/\PyFlat.row r2=some (asInts a,r3)/\PyFlat.row r3=some (asInts b,r4)/\PyFlat.row r4=some (asInts c,r5)/\PyFlat.row r5=some (asInts d,r6)/\PyFlat.row r6=some (asInts e,rest) /\
  s'=s/\out=match made n f a b c d e with | none=>[-8] | some t=>0::(t.length:Int)::bI t:=by
 obtain⟨c,h1,h2,h3⟩:=h
 obtain⟨hl,xs,h4,rfl⟩:=call_inv (a:=0) (b:=7) rfl h1
 rw[List.drop_zero]at h4
 obtain⟨x0,r1,y0,q0,k0,rfl⟩:=rows_inv h4
 obtain⟨x1,r2,y1,q1,k1,rfl⟩:=rows_inv k0
 obtain⟨x2,r3,y2,q2,k2,rfl⟩:=rows_inv k1
 obtain⟨x3,r4,y3,q3,k3,rfl⟩:=rows_inv k2
 obtain⟨x4,r5,y4,q4,k4,rfl⟩:=rows_inv k3
 obtain⟨x5,r6,y5,q5,k5,rfl⟩:=rows_inv k4
 obtain⟨x6,r7,y6,q6,k6,rfl⟩:=rows_inv k5
 obtain⟨rfl,rfl⟩:=abn k6
 have h2:(x0.all (λ(z:Int)=>decide (0<=z)&&decide (z<=255))&&(x1.all (λ(z:Int)=>decide (0<=z))&&(x2.all (λ(z:Int)=>decide (0<=z))&&(x3.all (λ(z:Int)=>decide (0<=z))&&(x4.all (λ(z:Int)=>decide (0<=z))&&(x5.all (λ(z:Int)=>decide (0<=z))&&x6.all (λ(z:Int)=>decide (0<=z))))))))=true:=h2
 rw[Bool.and_eq_true,Bool.and_eq_true,Bool.and_eq_true,Bool.and_eq_true,Bool.and_eq_true,Bool.and_eq_true]at h2
 obtain⟨n,a0,rfl,_⟩:=arp h2.1
 obtain⟨f,a1,rfl⟩:=abm h2.2.1
 obtain⟨a,a2,rfl⟩:=abm h2.2.2.1
 obtain⟨b,a3,rfl⟩:=abm h2.2.2.2.1
 obtain⟨c,a4,rfl⟩:=abm h2.2.2.2.2.1
 obtain⟨d,a5,rfl⟩:=abm h2.2.2.2.2.2.1
 obtain⟨e,a6,rfl⟩:=abm h2.2.2.2.2.2.2
 have hc:TaflRulesNeutral.callOf (PyWqaccy.whole [[((6:Nat):Int)],bI n,asInts f,asInts a,asInts b,asInts c,asInts d,asInts e])=some (.make n f a b c d e):=by
  show(do return TaflRules.Call.make (<-text? (bI n)) (<-row? (asInts f)) (<-row? (asInts a)) (<-row? (asInts b)) (<-row? (asInts c)) (<-row? (asInts d)) (<-row? (asInts e)))=_
  rw[a0,a1,a2,a3,a4,a5,a6]
  rfl
 obtain⟨rfl,rfl⟩:=abu hc h3
 refine⟨n,f,a,b,c,d,e,r1,r2,r3,r4,r5,r6,q0,q1,q2,q3,q4,q5,q6,rfl,?_⟩
 show(match made n f a b c d e with | none=>says (-8) | some t=>tells 0 [.text t]).nums=_
 cases made n f a b c d e with
 | none=>rfl
 | some t=>exact ah1 t
theorem aeo:∀(k n:Nat),0<k->n<10 ^ k->(digitsOf n).length<=k
 | 0,n,h,_=>by omega
 | k+1,n,_,h=>by
  by_cases hn:n<10
  ·rw[ag2 hn]
   show 1<=k+1
   omega
  ·have hk:0<k:=by
    cases k with
    | zero=>rw[Nat.pow_one]at h;omega
    | succ k=>omega
   have e:10*(n / 10)+n % 10=n:=by omega
   rw[<-e,ag1 (by omega) (by omega),List.length_append]
   have:=aeo k (n / 10) hk (by rw[Nat.pow_succ]at h;omega)
   show _+1<=k+1
   omega
theorem alj(w h:Nat)(sg:Nat->UInt8)(hw:w<=13)(hh:h<=13):(xm w h sg).length<=182:=by
 have:∀n,((List.range n).flatMap λi=>((List.range w).map λx=>sg (13*(h-1-i)+x))++[10]).length=n*(w+1):=λn=>by
  induction n with
  | zero=>rw[Nat.zero_mul];rfl
  | succ n ih =>
   rw[List.range_succ,List.flatMap_append,List.length_append,ih,Nat.succ_mul]
   simp
 unfold xm
 rw[this]
 exact Nat.mul_le_mul hh (Nat.add_le_add_right hw 1)
theorem word_short:∀ws∈n6,∀i,(wd ws i).length<=15:=λws hw i=>by
 have:(n6.all λws=>ws.all λv=>decide (v.length<=15))=true:=by decide +kernel
 have h1:=List.all_eq_true.mp this ws hw
 by_cases hi:i<ws.length
 ·have h2:=List.all_eq_true.mp h1 ws[i] (List.getElem_mem hi)
  have e:wd ws i=ws[i]:=by simp[wd,List.getD,hi]
  rw[e]
  exact of_decide_eq_true h2
 ·have e:wd ws i=[]:=by simp[wd,List.getD,Nat.le_of_not_lt hi]
  rw[e]
  exact Nat.zero_le _
theorem awm(f:List Nat):(lnT f 2 LINES).length<=1000:=by
 rw[am8]
 have m:∀k ws,n6[k]? = some ws->∀i,(wd ws i).length<=15:=λk ws h i=>word_short ws (List.mem_of_getElem? h) i
 have h0:=m 0 _ rfl (f.getD 2 0)
 have h1:=m 1 _ rfl (f.getD 3 0)
 have h2:=m 2 _ rfl (f.getD 4 0)
 have h3:=m 3 _ rfl (f.getD 5 0)
 have h4:=m 4 _ rfl (f.getD 6 0)
 have h5:=m 5 _ rfl (f.getD 7 0)
 have h6:=m 6 _ rfl (f.getD 8 0)
 have h7:=m 7 _ rfl (f.getD 9 0)
 have h8:=m 8 _ rfl (f.getD 10 0)
 have a1:(ascii "first").length=5:=by decide +kernel
 have a2:(ascii "king").length=4:=by decide +kernel
 have a3:(ascii "seat").length=4:=by decide +kernel
 have a4:(ascii "exits").length=5:=by decide +kernel
 have a5:(ascii "goal").length=4:=by decide +kernel
 have a6:(ascii "thrice").length=6:=by decide +kernel
 simp only[List.length_append,List.length_cons,List.length_nil,a1,a2,a3,a4,a5,a6]
 omega
theorem a4z{n:Bytes}{f a b c d e:List Nat}(cf:Can f)(h0:f.getD 0 0<10 ^ 20)(h1:f.getD 1 0<10 ^ 20)(h11:f.getD 11 0<10 ^ 20):(vd n f a b c d e).length<=n.length+3000:=by
 unfold vd
 have l0:=aeo 20 _ (by decide) h0
 have l1:=aeo 20 _ (by decide) h1
 have l2:=aeo 20 _ (by decide) h11
 have b1:=alj (f.getD 0 0) (f.getD 1 0) (aaj a b c) cf.w.2 cf.h.2
 have b2:=alj (f.getD 0 0) (f.getD 1 0) (aaz (f.getD 12 0) d e) cf.w.2 cf.h.2
 have b3:=awm f
 have a1:(ascii "tafl ").length=5:=by decide +kernel
 have a2:(ascii "\nground\n").length=8:=by decide +kernel
 have a3:(ascii "start\n").length=6:=by decide +kernel
 have a4:(ascii "limit ").length=6:=by decide +kernel
 simp only[List.length_append,List.length_cons,List.length_nil,a1,a2,a3,a4]
 omega
inductive aac:Nat->Option Rules->List Int->List Int->Prop
 | nil {s:Option Rules}:aac 0 s [] []
 | cons {k:Nat}{s s':Option Rules}{n:Nat}{inp out rest more:List Int}:n<10->Sem n s inp out s' rest->aac k s' rest more->aac (k+1) s ((n:Int)::inp) ((out.length:Int)::out++more)
theorem a2r{p:Int}{x:Nat×Nat}(h:PyWqaccy.shape p=some x):∃n:Nat,p=(n:Int)/\n<10:=by
 unfold PyWqaccy.shape at h
 refine⟨p.toNat,?_,?_⟩<;>(repeat' split at h)<;>first | omega | cases h
theorem aog:∀(f:Nat) (l:List Int) (s:Option Rules) (cs:List (List (List Int))),PyFlat.calls PyWqaccy.shape f l=some cs->(∀c∈cs,TaflRulesNeutral.asked1 (PyWqaccy.whole c)=true)->aac cs.length s l (PyFlat.told (PyFlat.played TaflRulesNeutral.step s (cs.map PyWqaccy.whole)))
 | 0,[],s,cs,h,_=>by
  injection h with h
  subst h
  exact .nil
 | f+1,[],s,cs,h,_=>by
  injection h with h
  subst h
  exact .nil
 | 0,p::r,s,cs,h,_=>by cases h
 | f+1,p::r,s,cs,h,ha=>by
  rw[PyFlat.calls]at h
  split at h
  ·cases h
  ·rename_i c t e
   split at h
   ·cases h
   ·rename_i cs' e2
    injection h with h
    subst h
    have hsh:∃n:Nat,p=(n:Int)/\n<10:=by
     rw[PyFlat.call]at e
     split at e
     ·cases e
     ·rename_i x e3
      exact a2r e3
    obtain⟨n,rfl,hn⟩:=hsh
    have ih:=aog f t (TaflRulesNeutral.step s (PyWqaccy.whole c)).1 cs' e2 λc' hc'=>ha c' (List.mem_cons_of_mem _ hc')
    exact .cons hn ⟨c,e,ha c (List.mem_cons_self ..),rfl⟩ ih
theorem as7{l:List Int}(h:PyWqaccy.answers_asked l=true):∃k,k<=300/\aac k none l (PyWqaccy.answers l):=by
 unfold PyWqaccy.answers_asked at h
 unfold PyWqaccy.answers
 unfold PyWqaccy.calls at h ⊢
 cases e:PyFlat.calls PyWqaccy.shape l.length l with
 | none=>rw[e]at h;cases h
 | some cs =>
  rw[e]at h
  dsimp only at h ⊢
  rw[Bool.and_eq_true]at h
  have h1:=of_decide_eq_true h.1
  rw[List.length_map]at h1
  refine⟨_,h1,aog _ _ _ _ e λc hc=>?_⟩
  have h2:=h.2
  unfold TaflRulesNeutral.asked at h2
  rw[Bool.and_eq_true]at h2
  exact List.all_eq_true.mp h2.2 _ (List.mem_map.mpr ⟨c,hc,rfl⟩)
end Hm
namespace Hr
open PySem PySem.Spec PyProof.Rows L2 Xc
structure Fn(K:PySem.W.Frag)(x qual:Str)(st:Stmt)(ps:List Str)(f:Addr):Prop where
 out:∃fd,Fun K x qual st f fd/\Binds K fd ps []
structure Def(P:Program)(w:World)(K:PySem.W.Frag)(mg:Str->Option Value)(base:Heap)(CX:CXT)(k:Nat)(f:Addr)(ps:List Str)(sp:Sp):Prop where
 out:∃fd,jm P w K mg base CX k f fd ps sp/\Binds K fd ps []
 kp:PySem.W.keepIn K (.ref f)=true
section
variable{P:Program}{w:World}{K:PySem.W.Frag}{mg:Str->Option Value}{base:Heap}{x qual:Str}{st:Stmt}{f:Addr}{N ps:List Str}{k j:Nat}{sp:Sp}{CX:CXT}
theorem Def.up(D:Def P w K mg base CX k f ps sp)(h:k<=j):Def P w K mg base CX j f ps sp:=let ⟨fd,F,b⟩:=D.out;⟨⟨fd,F.mono h,b⟩,D.kp⟩
theorem Fn.ok0(F:Fn K x qual st ps f)(S:cu N ps (bj st))(len:∀vs H Q E,sp vs H Q E->vs.length=ps.length)
  (hbody:∀(cdv:Value) (A:Around) (outer:List Env) (s:Shared) (H:Hp) (vs:List V) (Q:VK) (E:XK),fj k (A.deeper (envOfC qual (bj st) s.heap.objs.size f cdv))->sp vs H Q E ->
   ∃t,PSs (jo CX0 P w K mg base N qual (bj st) f cdv A outer s H E).nox (uh st) t/\t {nx:=λ_ H'=>Q .non H',rt:=Q} (start N vs) H):Def P w K mg base CX0 (k+1) f ps sp :=
 let ⟨fd,F,b⟩:=F.out;⟨⟨fd,F.ok S len hbody,b⟩,F.kp⟩
theorem Fn.okX(F:Fn K x qual st ps f)(S:cu N ps (bj st))(len:∀vs H Q E,sp vs H Q E->vs.length=ps.length)
  (hbody:∀(cdv:Value) (A:Around) (outer:List Env) (s:Shared) (H:Hp) (vs:List V) (Q:VK) (E:XK),fj k (A.deeper (envOfC qual (bj st) s.heap.objs.size f cdv))->sp vs H Q E ->
   ∃t,PSs (jo (XC P w) P w K mg base N qual (bj st) f cdv A outer s H E) (uh st) t/\t {nx:=λ_ H'=>Q .non H',rt:=Q} (start N vs) H):Def P w K mg base (XC P w) (k+1) f ps sp :=
 let ⟨fd,F,b⟩:=F.out;⟨⟨fd,Xc.okX F S len hbody,b⟩,F.kp⟩
end
section
variable{X:Cx}{CX:CXT}{k:Nat}{f C:Addr}{ps:List Str}{sp:Sp}{E:XK}{x m:Str}{p pos apos:Pos}{e o:Expr}{es:List Expr}{ta:TE}{t:TA}
theorem d8(D:Def X.prog X.w X.K X.mg X.base CX k f ps sp)(hr:fj k X.A)(hg:Gl X x)(hm:X.mg x=some (.ref f))(hx:Passes CX X E)(ha:PA X (e::es) t)(hdb:(x==("__debug__" : Str))=false:=by decide)
  (he:starEach (e::es) X.env=(false,eval e X.env)::starEach es X.env:=by rfl) (hpl:(backTo pos (starEach es X.env)).any (·.1)=false:=by rfl):PE X (.Call (.Name x p) (e::es) [] pos) (zx sp [] E t) :=
 let ⟨_,F,b⟩:=D.out;azt F hr hg hm D.kp b .nil hx ha hdb he hpl
theorem n8{pl:Sem Bool}(ho:PE X o ta)(c:Cls X.K C)(hm:Meth X.K C m f)(D:Def X.prog X.w X.K X.mg X.base CX k f ps sp)(hr:fj k X.A)(hx:Passes CX X E)(ha:PA X (e::es) t)
  (hst:starEach (e::es) X.env=(false,eval e X.env)::starEach es X.env:=by rfl) (hpl:(backTo pos (starEach es X.env)).any (·.1)=false:=by rfl)
  (ht:eval (.Call (.Attribute o m apos) (e::es) [] pos) X.env=(do
   let ov <-eval o X.env
   standAt apos.atName
   let (g,first) <-holding [ov] (getMethod ov m pl)
   callWith pos g first (backTo pos (starEach (e::es) X.env)) (backToKw pos (keywordEach [] X.env))):=by rfl) :
  PE X (.Call (.Attribute o m apos) (e::es) [] pos) (ad9 C m sp [] E ta t) :=
 let ⟨_,F,b⟩:=D.out;az2 ho c hm F hr b .nil hx ha hst hpl ht
theorem jf{pl:Sem Bool}(ho:PE X o ta)(c:Cls X.K C)(hm:Meth X.K C m f)(D:Def X.prog X.w X.K X.mg X.base CX k f ps sp)(hr:fj k X.A)(hx:Passes CX X E)
  (ht:eval (.Call (.Attribute o m apos) [] [] pos) X.env=(do
   let ov <-eval o X.env
   standAt apos.atName
   let (g,first) <-holding [ov] (getMethod ov m pl)
   callWith pos g first (backTo pos (starEach [] X.env)) (backToKw pos (keywordEach [] X.env))):=by rfl) :
  PE X (.Call (.Attribute o m apos) [] [] pos) (ad9 C m sp [] E ta jb) :=
 let ⟨_,F,b⟩:=D.out;az3 ho c hm F hr b .nil hx ht
theorem ah9{pl:Sem Bool}(hg:Gl X x)(hm:X.mg x=some (.ref C))(c:CM X.K C m f)(D:Def X.prog X.w X.K X.mg X.base CX k f ps sp)(hr:fj k X.A)(hx:Passes CX X E)(ha:PA X (e::es) t)
  (hdb:(x==("__debug__" : Str))=false:=by decide) (hst:starEach (e::es) X.env=(false,eval e X.env)::starEach es X.env:=by rfl) (hpl:(backTo pos (starEach es X.env)).any (·.1)=false:=by rfl)
  (ht:eval (.Call (.Attribute (.Name x p) m apos) (e::es) [] pos) X.env=(do
   let ov <-eval (.Name x p) X.env
   standAt apos.atName
   let (g,first) <-holding [ov] (getMethod ov m pl)
   callWith pos g first (backTo pos (starEach (e::es) X.env)) (backToKw pos (keywordEach [] X.env))):=by rfl) :
  PE X (.Call (.Attribute (.Name x p) m apos) (e::es) [] pos) (zx sp [] E t) :=
 let ⟨_,F,b⟩:=D.out;azv hg hm c F hr b hx ha hdb hst hpl ht
theorem ado(M:XMk X.K C f)(D:Def X.prog X.w X.K X.mg X.base CX k f ps sp)(hr:fj (k+1) X.A)(hg:Gl X x)(hm:X.mg x=some (.ref C))(hz:ps.length<=1000)(hx:Passes CX X E)
  (ha:PA X (e::es) t) (hdb:(x==("__debug__" : Str))=false:=by decide) (he:starEach (e::es) X.env=(false,eval e X.env)::starEach es X.env:=by rfl) (hpl:(backTo pos (starEach es X.env)).any (·.1)=false:=by rfl) :
  PE X (.Call (.Name x p) (e::es) [] pos) (wy C sp E t) :=
 let ⟨_,F,b⟩:=D.out;az8 M F hr hg hm b hz hx ha hdb he hpl
theorem abh(M:XMk X.K C f)(D:Def X.prog X.w X.K X.mg X.base CX k f ps sp)(hr:fj (k+1) X.A)(hg:Gl X x)(hm:X.mg x=some (.ref C))(hz:ps.length<=1000)(hx:Passes CX X E)
  (hdb:(x==("__debug__" : Str))=false:=by decide):PE X (.Call (.Name x p) [] [] pos) (wy C sp E jb) :=
 let ⟨_,F,b⟩:=D.out;az9 M F hr hg hm b hz hx hdb
theorem afa(M:Mk X.K C f)(D:Def X.prog X.w X.K X.mg X.base CX k f ps sp)(hr:fj (k+1) X.A)(hg:Gl X x)(hm:X.mg x=some (.ref C))(hx:Passes CX X E)
  (ha:PA X (e::es) t) (hdb:(x==("__debug__" : Str))=false:=by decide) (he:starEach (e::es) X.env=(false,eval e X.env)::starEach es X.env:=by rfl) (hpl:(backTo pos (starEach es X.env)).any (·.1)=false:=by rfl) :
  PE X (.Call (.Name x p) (e::es) [] pos) (aga C sp [] E t) :=
 let ⟨_,F,b⟩:=D.out;az0 M F hr hg hm b .nil hx ha hdb he hpl
end
def acq(K:PySem.W.Frag):Sp:=λvs H Q _=>∃(e C:Addr) (y:V),vs=[.ref e,y]/\H e=some (.ext (my e C))/\ni K C "told" /\ ∀dx,H dx=none->Q .non (upd (upd H dx (.xd [("told",y)])) e (.ext (mq e C dx)))
def uv(K:PySem.W.Frag)(C:Addr)(n:Nat)(told:List V->List V):Sp:=λvs H Q _=>∃(e:Addr) (ys:List V),vs=.ref e::ys/\ys.length=n/\H e=some (.ext (my e C))/\ni K C "told" /\
 ∀dx l,H l=none->H dx=none->dx≠l->Q .non (upd (upd (upd H l (.lst (told ys))) dx (.xd [("told",.ref l)])) e (.ext (mq e C dx)))
section
variable{P:Program}{w:World}{K:PySem.W.Frag}{mg:Str->Option Value}{base:Heap}
theorem axo{f:Addr}(F:Fn K "__init__" "Refusal.__init__" afq ["self", "told"] f):Def P w K mg base CX0 1 f ["self", "told"] (acq K):=by
 refine F.ok0 ao7 (λvs H Q E h=>?_) (λcdv A outer s H vs Q E hr h=>?_)
 ·obtain⟨e,C,y,rfl,_⟩:=h
  rfl
 ·obtain⟨e,C,y,rfl,he,xa,k⟩:=h
  exact⟨_,bh (aoj (pv 0) (pv 1) rfl),_,rfl,_,rfl,e,C,rfl,he,xa,k⟩
theorem ant{f fR R C:Addr}(F:Fn K "__init__" "TextFault.__init__" aja ["self", "kind", "place"] f)(DR:Def P w K mg base CX0 1 fR ["self", "told"] (acq K))(hR:mg "Refusal" = some (.ref R))(cm:CM K R "__init__" fR):
  Def P w K mg base CX0 2 f ["self", "kind", "place"] (uv K C 2 λys=>.int (-6)::ys):=by
 refine F.ok0 a1p (λvs H Q E h=>?_) (λcdv A outer s H vs Q E hr h=>?_)
 ·obtain⟨e,ys,rfl,hl,_⟩:=h
  show ys.length+1=3
  rw[hl]
 ·obtain⟨e,ys,rfl,hl,he,xa,k⟩:=h
  obtain⟨a,b,rfl⟩:∃a b,ys=[a,b]:=by
   match ys,hl with
   | [a,b],_=>exact⟨a,b,rfl⟩
  refine⟨_,bh (ig (ah9 rfl hR cm DR hr bu (aj (pv 0) (aj (ju (aj (aci acw dm) (aj (pv 1) (aj (pv 2) aq)))) aq)))),?_⟩
  refine⟨_,rfl,_,rfl,_,rfl,_,rfl,(by show 3<=sizeLine;decide),λl hl=>?_⟩
  have ne:e≠l:=bx he hl
  refine⟨e,C,.ref l,rfl,by rw[ao ne];exact he,xa,λdx hd=>?_⟩
  have nd:dx≠l:=λz=>by rw[z,ak]at hd;cases hd
  exact k dx l hl (by rw[ao nd]at hd;exact hd) nd
end
open Tafl (Bytes Cur)
open Hm (wd restOf ie PF xj cur)
def bz(b:Bytes):List V:=b.map λx=>V.int (x.toNat:Int)
theorem uf(b:Bytes):(bz b).length=b.length:=List.length_map ..
theorem atj(b:Bytes)(i:Nat):(bz b)[i]? = b[i]?.map λx=>V.int (x.toNat:Int):=List.getElem?_map ..
def rf(a:Addr)(p:Nat):List (Str×V):=[("codes",.ref a),("place",.int (p:Int))]
def jh(C:Addr)(H:Hp)(r a:Addr)(p:Nat):Prop:=∃dx,H r=some (.ins C dx (rf a p))
def But(r:Addr)(H H':Hp):Prop:=∀b o,H b=some o->b≠r->H' b=some o
theorem But.refl{r:Addr}{H:Hp}:But r H H:=λ_ _ h _=>h
theorem But.trans{r:Addr}{H H1 H2:Hp}(a:But r H H1)(b:But r H1 H2):But r H H2:=λc o h n=>b c o (a c o h n) n
theorem But.new{r l:Addr}{H H1:Hp}{o:HO}(a:But r H H1)(n:H1 l=none):But r H (upd H1 l o):=λc u h nc=>by rw[ao (bx (a c u h nc) n)];exact a c u h nc
theorem But.at{r:Addr}{H H1:Hp}{o:HO}(a:But r H H1):But r H (upd H1 r o):=λc u h nc=>by rw[ao nc];exact a c u h nc
theorem But.seq{K:PySem.W.Frag}{r a:Addr}{H H':Hp}{xs:List V}(k:But r H H')(n:a≠r)(h:SqL K H a xs):SqL K H' a xs:=by
 rcases h with (h | ⟨o,h⟩) | h
 ·exact .inl (.inl (k _ _ h n))
 ·exact .inl (.inr ⟨o,k _ _ h n⟩)
 ·exact .inr h
structure RdT(K:PySem.W.Frag)(mg:Str->Option Value)(C:Addr):Prop where
 cl:Cls K C
 nC:jn K C "codes"
 nP:jn K C "place"
 len:mg "len" = none
 range:mg "range" = none
 list:mg "list" = none
 ord:mg "ord" = none
def peekAt(b:Bytes)(p:Nat):Int:=match b[p]? with | some x=>(x.toNat:Int) | none=>-1
def af4(K:PySem.W.Frag)(C:Addr):Sp:=λvs H Q _=>∃(r a:Addr) (p:Nat) (b:Bytes),vs=[.ref r]/\jh C H r a p/\SqL K H a (bz b)/\Q (.int (peekAt b p)) H
section
variable{P:Program}{w:World}{K:PySem.W.Frag}{mg:Str->Option Value}{base:Heap}
theorem ayt{f C:Addr}(F:Fn K "peek" "Reader.peek" ai1 ["self"] f)(T:RdT K mg C):Def P w K mg base CX0 1 f ["self"] (af4 K C):=by
 refine F.ok0 a1k (λvs H Q E h=>?_) (λcdv A outer s H vs Q E hr h=>?_)
 ·obtain⟨r,a,p,b,rfl,_⟩:=h
  rfl
 ·obtain⟨r,a,p,b,rfl,⟨dx,h1⟩,hs,q⟩:=h
  refine⟨_,au (jl (iy zq (dw (pv 0) rfl) (jg xn (by rfl) T.len PySem.boot_len (aj (dw (pv 0) rfl) aq)) (gf _))
   (bh (dj (gk m8 (dw (pv 0) rfl) (dw (pv 0) rfl) (λ_ _=>rfl)))) jq) (bh (dj (aci acw dm))),?_⟩
  refine⟨_,rfl,r,C,dx,_,.int p,rfl,h1,T.cl,T.nP,rfl,_,rfl,r,C,dx,_,.ref a,rfl,h1,T.cl,T.nC,rfl,a,_,rfl,.inl hs,_,_,rfl,rfl,_,rfl,?_⟩
  rw[uf]
  refine nj (λhc=>?_) λhc=>?_
  ·have hc:(p:Int)<(b.length:Int):=of_decide_eq_true hc
   have hp:p<b.length:=by omega
   refine⟨_,rfl,r,C,dx,_,.ref a,rfl,h1,T.cl,T.nC,rfl,_,rfl,r,C,dx,_,.int p,rfl,h1,T.cl,T.nP,rfl,a,_,_,_,rfl,rfl,hs,gr (v:=V.int (b[p].toNat:Int)) (by rw[atj,List.getElem?_eq_getElem hp];rfl),?_⟩
   have e:peekAt b p=(b[p].toNat:Int):=by unfold peekAt;rw[List.getElem?_eq_getElem hp]
   rw[e]at q
   exact q
  ·have hp:b.length<=p:=by simpa using hc
   have e:peekAt b p=-1:=by unfold peekAt;rw[List.getElem?_eq_none hp]
   rw[e]at q
   exact⟨_,rfl,q⟩
end
theorem ixq{X:Cx}{K:PySem.W.Frag}(h:X.K=K:=by rfl):IxR X (rIx K):=h▸ahg
def Words(K:PySem.W.Frag)(H:Hp)(v:V)(ws:List Bytes):Prop :=
 (∃(a:Addr) (zs:List Str),v=.ref a/\SqT K H a (zs.map V.str)/\zs.map (λz=>z.cps.toList)=ws.map (λw=>w.map UInt8.toNat)) \/
 ∃(z:Str) (cs:Bytes),v=.str z/\z.cps.toList=cs.map UInt8.toNat/\ws=cs.map (λc=>[c])/\cs.length<=1000
theorem str_len{z:Str}{l:List Nat}(h:z.cps.toList=l):z.length=l.length:=by rw[<-h];exact(Array.length_toList ..).symm
theorem Words.len{K:PySem.W.Frag}{H:Hp}{v:V}{ws:List Bytes}(h:Words K H v ws):agk K v H ws.length:=by
 rcases h with ⟨a,zs,rfl,h1,h2⟩ | ⟨z,cs,rfl,h1,rfl,h2⟩
 ·refine .inr ⟨_,h1,?_⟩
  have:=congrArg List.length h2
  simpa using this.symm
 ·have e:=str_len h1
  rw[List.length_map]at e
  exact⟨by rw[e,sizeLine_eq];omega,by rw[List.length_map,e]⟩
theorem Words.ix{K:PySem.W.Frag}{H:Hp}{v:V}{ws:List Bytes}(h:Words K H v ws){i:Nat}(hi:i<ws.length){Q:VK}(q:∀z:Str,z.cps.toList=(wd ws i).map UInt8.toNat->Q (.str z) H):rIx K v (.int (i:Int)) H Q:=by
 have ew:wd ws i=ws[i]:=by simp[wd,List.getD,hi]
 rcases h with ⟨a,zs,rfl,h1,h2⟩ | ⟨z,cs,rfl,h1,rfl,h2⟩
 ·have hl:zs.length=ws.length:=by simpa using congrArg List.length h2
  have hz:i<zs.length:=by omega
  have e:zs[i].cps.toList=ws[i].map UInt8.toNat:=by
   have:=congrArg (λl=>l[i]?) h2
   simpa[hz,hi]using this
  exact .inr (.inl ⟨a,_,_,_,rfl,rfl,h1,gr (v:=V.str zs[i]) (by rw[List.getElem?_map,List.getElem?_eq_getElem hz];rfl),q _ (by rw[ew];exact e)⟩)
 ·have hc:i<cs.length:=by simpa using hi
  have e:=str_len h1
  rw[List.length_map]at e
  refine .inr (.inr ⟨z,_,cs[i].toNat,rfl,rfl,by rw[e,sizeLine_eq];omega,gr (by rw[h1,List.getElem?_map,List.getElem?_eq_getElem hc];rfl),q _ ?_⟩)
  rw[ew]
  simp
theorem Words.but{K:PySem.W.Frag}{H H':Hp}{v:V}{ws:List Bytes}{r C dx:Addr}{fs:List (Str×V)}(h:Words K H v ws)(k:But r H H')(hr:H r=some (.ins C dx fs)):Words K H' v ws:=by
 rcases h with ⟨a,zs,rfl,h1,h2⟩ | h
 ·refine .inl ⟨a,zs,rfl,?_,h2⟩
  rcases h1 with (h | ⟨o,h⟩) | h
  ·exact .inl (.inl (k _ _ h (gb h hr (by intro z;cases z))))
  ·exact .inl (.inr ⟨o,k _ _ h (gb h hr (by intro z;cases z))⟩)
  ·exact .inr h
 ·exact .inr h
def Told(TF:Addr)(E:XK)(kind place:Int)(G:Hp->Prop):Prop:=∀dx l H',H' dx=some (.xd [("told",.ref l)])->H' l=some (.lst [.int (-6),.int kind,.int place])->G H'->E (.ref TF) (some dx) H'
def ad4(K:PySem.W.Frag)(C TF:Addr):Sp:=λvs H Q E=>∃(r a:Addr) (v:V) (p:Nat) (b:Bytes) (ws:List Bytes),vs=[.ref r,v]/\jh C H r a p/\a≠r/\SqL K H a (bz b)/\Words K H v ws/\PF ws/\0<ws.length/\ws.length<=1000 /\
 (match Tafl.oneOf 16 (ie ws) (cur b p)with
  | .ok (i,c)=>∀H',jh C H' r a c.at_->c=cur b c.at_->But r H H'->Q (.int (i:Int)) H'
  | .error q=>Told TF E 1 q (But r H))
def hits(ws:List Bytes)(b:Bytes)(p k:Nat)(j:Nat):Bool:=match (wd ws j)[k]? with
 | some x=>decide (V.int (x.toNat:Int)=V.int (peekAt b (p+k)))
 | none=>false
theorem amn{ws:List Bytes}{b:Bytes}{p k:Nat}{x:UInt8}{idx:List Nat}(e:b[p+k]? = some x):idx.filter (hits ws b p k)=Hm.keep ws idx k x:=by
 unfold Hm.keep
 refine List.filter_congr λj _=>?_
 have ep:peekAt b (p+k)=(x.toNat:Int):=by unfold peekAt;rw[e]
 unfold hits
 rw[ep]
 cases h:(wd ws j)[k]? with
 | none=>rfl
 | some y =>
  by_cases hy:y=x
  ·subst hy
   simp
  ·have:y.toNat≠x.toNat:=λz=>hy (UInt8.toNat_inj.mp z)
   show decide (V.int (y.toNat:Int)=V.int (x.toNat:Int))=(some y==some x)
   rw[decide_eq_false (λz=>by injection z with z;omega)]
   simp[hy]
theorem au8{ws:List Bytes}{b:Bytes}{p k j:Nat}(e:b[p+k]? = none):hits ws b p k j=false:=by
 have ep:peekAt b (p+k)=-1:=by unfold peekAt;rw[e]
 unfold hits
 rw[ep]
 split
 ·simp
 ·rfl
theorem aik(a:Addr)(p:Nat):ik "place" (.int ((p:Int)+1)) (rf a p)=rf a (p+1):=rfl
def aks(C r a:Addr)(v:V)(H:Hp)(b:Bytes)(p:Nat)(ws:List Bytes)(m:Nat)(σ:L2.St)(H':Hp):Prop:=∃(k i0:Nat) (rest:List Nat) (la:Addr) (bt:Option V),m=16-k/\k<16/\σ=[some (.ref r),some v,some (.ref la),some (.int (k:Int)),bt,none] /\
 H' la=some (.lst ((i0::rest).map λ(i:Nat)=>V.int (i:Int)))/\xj ws (i0::rest) k/\jh C H' r a (p+k)/\But r H H'/\(i0::rest).length<=1000 /\
 Tafl.oneOf 16 (ie ws) (cur b p)=Tafl.oneOf (16-k) (restOf ws (i0::rest) k) (cur b (p+k))
section
variable{P:Program}{w:World}{K:PySem.W.Frag}{mg:Str->Option Value}{base:Heap}
theorem ay2{f fP fT C TF:Addr}(F:Fn K "take_choice" "Reader.take_choice" afp ["self", "words"] f)(T:RdT K mg C)(mP:Meth K C "peek" fP)(DP:Def P w K mg base CX0 1 fP ["self"] (af4 K C))
  (DT:Def P w K mg base CX0 2 fT ["self", "kind", "place"] (uv K TF 2 λys=>.int (-6)::ys)) (MT:XMk K TF fT) (xT:ni K TF "told") (hT:mg "TextFault" = some (.ref TF)) :
  Def P w K mg base (XC P w) 4 f ["self", "words"] (ad4 K C TF):=by
 refine F.okX ao3 (λvs H Q E h=>?_) (λcdv A outer s H vs Q E hr h=>?_)
 ·obtain⟨r,a,v,p,b,ws,rfl,_⟩:=h
  rfl
 ·obtain⟨r,a,v,p,b,ws,rfl,⟨dx,h1⟩,nar,hs,hw,pf,h0,h1000,q⟩:=h
  have nd:=ao3.nd
  have hr1:=hr.mono (j:=1) (by decide)
  refine⟨_,au (cz (i:=2) nd rfl (Or.inl rfl) (adp (atm rfl) (by rfl) T.list PyProof.Rows.boot_list (aj (adp ags (by rfl) T.range boot_range (aj (jg ac5 (by rfl) T.len PySem.boot_len (aj (pv 1) aq)) aq)) aq)))
   (au (cz (i:=3) nd rfl (Or.inr rfl) dm)
   (au (afj PassesOwn.leaving (iy zq (pv 3) (jg ac5 (by rfl) T.len PySem.boot_len (aj (gk ahg (pv 1) (gk m8 (pv 2) dm (λ_ _=>rfl)) (λ_ _=>rfl)) aq)) (gf _))
    (au (cz (i:=4) nd rfl (Or.inr rfl) (jf (pv 0) T.cl mP DP hr1 bu))
    (au (aif (i:=2) (own:=[("k",5)]) rfl nd rfl rfl (aki rfl rfl rfl rfl) (aas (pv 2)) (vp (N:=["self", "words", "left", "offset", "byte", "k"]) (sc:=bj afp) (by decide +kernel)) (λ_ _ _ _ _=>gm (i:=5) nd rfl (Or.inl rfl))
     (λ_ _ _ _ _=>afk (iy uq (jg zc (by rfl) T.ord PyProof.Rows.boot_ord (aj (gk ahh (gk (ixq (K:=K)) (pv 1) (pv 5) (λ_ _=>rfl)) (pv 3) (λ_ _=>rfl)) aq)) (pv 4) (gf _))) (λ_ _ _ _ _=>pv 5))
    (au (jl (u9 (abk (pv 2) (λ_=>rfl))) (bh (wk rfl wz (ado MT DT hr rfl hT (by decide) bu (aj dm (aj (dw (pv 0) rfl) aq))))) jq)
    (au (adz (pv 0) dm adg)
    (bh (aaw (i:=3) nd rfl (Or.inr rfl) dm amw)))))))
   (bh (dj (gk m8 (pv 2) dm (λ_ _=>rfl)))))),?_⟩
  refine⟨_,rfl,v,ws.length,rfl,hw.len,_,rfl,λpr hpr=>⟨pr,_,rfl,ak,by omega,by omega,λl hl=>?_⟩⟩
  have hl0:upd H pr (.rng 0 (ws.length:Int)) l=none:=hl
  have kp0:But r H (upd (upd H pr (.rng 0 (ws.length:Int))) l (.lst ((List.range (ws.length:Int).toNat).map λ(i:Nat)=>V.int (i:Int)))):=(But.refl.new hpr).new hl0
  refine⟨aks C r a v H b p ws,⟨16,?_⟩,?_⟩
  ·have nr1:r≠pr:=bx h1 hpr
   have nr2:r≠l:=bx (show upd H pr (.rng 0 (ws.length:Int)) r=_ by rw[ao nr1];exact h1) hl0
   obtain⟨i0,rest,e⟩:∃i0 rest,List.range ws.length=i0::rest:=by
    cases q:List.range ws.length with
    | nil=>rw[List.range_eq_nil]at q;omega
    | cons x y=>exact⟨x,y,rfl⟩
   refine⟨0,i0,rest,l,none,rfl,by decide,rfl,?_,e▸Hm.awd ws,⟨dx,by rw[ao nr2,ao nr1];exact h1⟩,kp0,?_,?_⟩
   ·rw[ak,<-e]
    rfl
   ·rw[<-e,List.length_range]
    exact h1000
   ·rw[<-e,<-Hm.ae5]
    rfl
  ·rintro m σ H' ⟨k,i0,rest,la,bt,rfl,hk,rfl,hla,ok,⟨dx',hrd⟩,kp,hlen,he⟩
   have li0:i0<ws.length:=ok.lt i0 (List.mem_cons_self ..)
   have hw':=hw.but kp h1
   refine⟨_,rfl,_,rfl,_,rfl,la,_,0,_,rfl,rfl,SqL.of hla,gr (j:=0) (v:=V.int (i0:Int)) rfl,hw'.ix li0 λz hz=>?_⟩
   have ez:=str_len hz
   rw[List.length_map]at ez
   have hsh:=pf.sh i0 li0
   refine⟨.str z,z.length,rfl,⟨by rw[ez,sizeLine_eq];omega,rfl⟩,(k:Int),(z.length:Int),rfl,rfl,_,rfl,?_⟩
   have e16:16-k=(16-(k+1))+1:=by omega
   refine nj (λhc=>?_) λhc=>?_
   ·have hc:(k:Int)<(z.length:Int):=of_decide_eq_true hc
    have hc:k<(wd ws i0).length:=by omega
    have long:=Hm.longer pf ok hc
    refine⟨aks C r a v H b p ws (16-(k+1)),λσ2 H2 z=>⟨_,by omega,z⟩,?_⟩
    refine⟨_,rfl,r,dx',_,rfl,hrd,rfl,r,a,p+k,b,rfl,⟨dx',hrd⟩,kp.seq nar hs,?_⟩
    refine⟨_,rfl,la,rfl,⟨_,SqL.of hla⟩,λD hD=>?_⟩
    have nla:la≠D:=bx hla hD
    refine aez (K:=K) (a:=la) (xs:=(i0::rest).map λ(i:Nat)=>V.int (i:Int)) (λi Hc=>Hc=upd H' D (.lst ((((i0::rest).take i).filter (hits ws b p k)).map λ(i:Nat)=>V.int (i:Int)))) rfl
     (λi Hc _ e=>SqL.of (by rw[e,ao nla];exact hla)) ?_ ?_
    ·rintro i x Hc hx rfl
     rw[List.getElem?_map]at hx
     obtain⟨j,hj,rfl⟩:=Option.map_eq_some_iff.mp hx
     have mj:j∈i0::rest:=List.mem_of_getElem? hj
     have hkj:=long j mj
     have lj:=ok.lt j mj
     have shj:=pf.sh j lj
     have kpD:But r H (upd H' D (.lst ((((i0::rest).take i).filter (hits ws b p k)).map λ(i:Nat)=>V.int (i:Int)))):=kp.new hD
     refine⟨rfl,_,rfl,_,rfl,(hw.but kpD h1).ix lj λz2 hz2=>?_⟩
     have ez2:=str_len hz2
     rw[List.length_map]at ez2
     refine⟨_,rfl,z2,_,(wd ws j)[k].toNat,rfl,rfl,by rw[ez2,sizeLine_eq];omega,gr (j:=k) (by rw[hz2,List.getElem?_map,List.getElem?_eq_getElem hkj];rfl),⟨#[(wd ws j)[k].toNat]⟩,rfl,rfl,_,rfl,rfl,_,rfl,?_⟩
     have tk:(i0::rest).take (i+1)=(i0::rest).take i++[j]:=by rw[List.take_succ,hj];rfl
     have eh:hits ws b p k j=decide (V.int ((wd ws j)[k].toNat:Int)=V.int (peekAt b (p+k))):=by unfold hits;rw[List.getElem?_eq_getElem hkj]
     refine nj (λhd=>?_) λhd=>?_
     ·refine⟨_,rfl,_,ak,?_,?_⟩
      ·rw[List.length_map,sizeLine_eq]
       have h1:=List.length_filter_le (hits ws b p k) ((i0::rest).take i)
       have h2:((i0::rest).take i).length<=(i0::rest).length:=by rw[List.length_take];exact Nat.min_le_right _ _
       omega
      ·rw[tk,List.filter_append,List.filter_cons,if_pos (eh.trans hd),List.filter_nil,List.map_append]
       funext c
       by_cases ec:c=D
       ·rw[ec,ak,ak];rfl
       ·rw[ao ec,ao ec,ao ec]
     ·rw[tk,List.filter_append,List.filter_cons,if_neg (by rw[eh];exact hd),List.filter_nil,List.append_nil]
    ·rintro Hc rfl
     rw[List.length_map,List.take_length]
     have nrD:r≠D:=bx hrd hD
     have kpD:But r H (upd H' D (.lst (((i0::rest).filter (hits ws b p k)).map λ(i:Nat)=>V.int (i:Int)))):=kp.new hD
     have hrD:(upd H' D (.lst (((i0::rest).filter (hits ws b p k)).map λ(i:Nat)=>V.int (i:Int)))) r=some (.ins C dx' (rf a (p+k))):=by rw[ao nrD];exact hrd
     refine⟨_,rfl,_,.inl ⟨_,SqL.of ak,rfl⟩,?_⟩
     cases eF:(i0::rest).filter (hits ws b p k)with
     | nil =>
      rw[eF]at hrD kpD
      refine d9 ?_
      refine⟨_,rfl,r,C,dx',_,_,rfl,hrD,T.cl,T.nP,rfl,λe hne=>?_⟩
      have ner:r≠e:=bx hrD hne
      refine⟨e,[.int 1,.int ((p+k:Nat):Int)],rfl,rfl,ak,xT,λdx2 l2 g1 g2 g3=>⟨rfl,e,TF,dx2,rfl,ak,MT.xc,?_⟩⟩
      have eq:Tafl.oneOf 16 (ie ws) (cur b p)=.error (p+k):=by
       rw[he,e16]
       cases ex:b[p+k]? with
       | none=>exact Hm.ae7 long (by rw[Hm.o5];exact ex)
       | some x =>
        rw[Hm.acf long (by rw[Hm.o5];exact ex),if_pos]
        ·rfl
        ·rw[<-amn ex]
         exact eF
      rw[eq]at q
      have nl2:l2≠e:=λz=>by rw[z,ak]at g1;cases g1
      have nd2:dx2≠e:=λz=>by rw[z,ak]at g2;cases g2
      refine q dx2 l2 _ ?_ ?_ ?_
      ·rw[ao nd2,ao nd2,ak]
      ·rw[ao nl2,ao nl2,ao (Ne.symm g3),ak]
      ·have k1:=kpD.new (o:=.ext (my e TF)) hne
       have k2:=k1.new (o:=.lst (V.int (-6)::[V.int 1,V.int ((p+k:Nat):Int)])) g1
       have k3:But r H _:=k2.new (l:=dx2) (o:=.xd [("told",.ref l2)]) (by rw[ao g3];exact g2)
       have k4:∀{G:Hp}{o:HO},But r H G->But r H (upd G e o):=λ{G o} kg c u hc nc=>by
        rw[ao (λz=>?_)]
        ·exact kg c u hc nc
        ·have z1:=kpD c u hc nc
         rw[z,hne]at z1
         cases z1
       exact k4 (k4 k3)
     | cons j0 rest2 =>
      rw[eF]at hrD kpD
      refine gh ?_
      refine⟨_,rfl,r,C,dx',_,_,rfl,hrD,T.cl,T.nP,rfl,_,1,rfl,rfl,dx',_,hrD,by show 2<1000;decide,?_⟩
      refine⟨_,rfl,_,1,rfl,rfl,?_⟩
      have ex:∃x,b[p+k]? = some x:=by
       cases ex:b[p+k]? with
       | some x=>exact⟨x,rfl⟩
       | none =>
        have mj:j0∈(i0::rest).filter (hits ws b p k):=by rw[eF];exact List.mem_cons_self ..
        have hj:=(List.mem_filter.mp mj).2
        exact absurd hj (by rw[au8 ex];decide)
      obtain⟨x,ex⟩:=ex
      have ek:=amn (ws:=ws) (idx:=i0::rest) (k:=k) ex
      have okk:=Hm.avv (x:=x) ok
      rw[<-ek,eF]at okk
      have lj0:=okk.le j0 (List.mem_cons_self ..)
      have sj0:=pf.sh j0 (okk.lt j0 (List.mem_cons_self ..))
      have hl2:(j0::rest2).length<=1000:=by
       rw[<-eF]
       exact Nat.le_trans (List.length_filter_le ..) hlen
      refine⟨k+1,j0,rest2,D,_,rfl,by omega,rfl,?_,okk,⟨dx',?_⟩,kpD.at,hl2,?_⟩
      ·rw[ao (Ne.symm nrD),ak]
      ·rw[ak,aik]
       rfl
      ·rw[he,e16,Hm.acf long (by rw[Hm.o5];exact ex),if_neg (by rw[<-ek,eF];simp),<-ek,eF,Hm.vq]
       rfl
   ·have hc:¬k<(wd ws i0).length:=λz=>hc (decide_eq_true (by omega))
    rw[he,e16,Hm.ae6 ok hc]at q
    refine⟨_,rfl,la,_,0,_,rfl,rfl,SqL.of hla,gr (j:=0) (v:=V.int (i0:Int)) rfl,?_⟩
    exact q H' ⟨dx',hrd⟩ rfl kp
end
def MD(P:Program)(w:World)(K:PySem.W.Frag)(mg:Str->Option Value)(base:Heap)(C:Addr)(CX:CXT)(k:Nat)(m:Str)(ps:List Str)(sp:Sp):Prop:=∃f,Meth K C m f/\Def P w K mg base CX k f ps sp
def GD(P:Program)(w:World)(K:PySem.W.Frag)(mg:Str->Option Value)(base:Heap)(CX:CXT)(k:Nat)(x:Str)(ps:List Str)(sp:Sp):Prop:=∃f,mg x=some (.ref f)/\Def P w K mg base CX k f ps sp
structure TFd(P:Program)(w:World)(K:PySem.W.Frag)(mg:Str->Option Value)(base:Heap)(TF:Addr):Prop where
 make:∃f,XMk K TF f/\Def P w K mg base CX0 2 f ["self", "kind", "place"] (uv K TF 2 λys=>.int (-6)::ys)
 xa:ni K TF "told"
 at_:mg "TextFault" = some (.ref TF)
def ad5(K:PySem.W.Frag)(C TF:Addr):Sp:=λvs H Q E=>∃(r a:Addr) (z:Str) (p:Nat) (b wo:Bytes),vs=[.ref r,.str z]/\jh C H r a p/\a≠r/\SqL K H a (bz b)/\z.cps.toList=wo.map UInt8.toNat/\wo.length<16 /\
 (match Tafl.lit wo (cur b p)with
  | .ok c=>∀H',jh C H' r a c.at_->c=cur b c.at_->But r H H'->Q .non H'
  | .error q=>Told TF E 1 q (But r H))
def ad3(g:Int->Bool):Sp:=λvs H Q _=>∃i:Int,vs=[.int i]/\Q (.bl (g i)) H
section
variable{P:Program}{w:World}{K:PySem.W.Frag}{mg:Str->Option Value}{base:Heap}
theorem jx{TF:Addr}{E:XK}{k p:Int}{G G':Hp->Prop}(h:Told TF E k p G)(g:∀H',G' H'->G H'):Told TF E k p G':=λdx l H' a b c=>h dx l H' a b (g H' c)
theorem ay9{f C TF:Addr}(F:Fn K "take_word" "Reader.take_word" ai7 ["self", "word"] f)(T:RdT K mg C)(mC:MD P w K mg base C (XC P w) 4 "take_choice" ["self", "words"] (ad4 K C TF)):
  Def P w K mg base (XC P w) 5 f ["self", "word"] (ad5 K C TF):=by
 obtain⟨fC,mC,DC⟩:=mC
 refine F.okX a1m (λvs H Q E h=>?_) (λcdv A outer s H vs Q E hr h=>?_)
 ·obtain⟨r,a,z,p,b,wo,rfl,_⟩:=h
  rfl
 ·obtain⟨r,a,z,p,b,wo,rfl,⟨dx,h1⟩,nar,hs,hz,hl,q⟩:=h
  refine⟨_,bh (ig (n8 (pv 0) T.cl mC DC hr ir (aj (ur (aj (pv 1) aq)) aq))),?_⟩
  refine⟨_,rfl,r,dx,_,rfl,h1,rfl,_,rfl,by show 1<=sizeLine;decide,λt ht=>?_⟩
  have nrt:r≠t:=bx h1 ht
  have kp:But r H (upd H t (.tup [.str z])):=But.refl.new ht
  refine⟨r,a,.ref t,p,b,[wo],rfl,⟨dx,by rw[ao nrt];exact h1⟩,nar,kp.seq nar hs,.inl ⟨t,[z],rfl,SqT.of ak,by simp[hz]⟩,Hm.a0b hl,by show 0<1;decide,by show 1<=1000;decide,?_⟩
  rw[Hm.axe,Hm.anu wo 16 (cur b p) hl]
  cases e:Tafl.lit wo (cur b p)with
  | ok c =>
   rw[e]at q
   exact λH' g1 g2 g3=>q H' g1 g2 (kp.trans g3)
  | error q0 =>
   rw[e]at q
   exact jx q λH' g=>kp.trans g
theorem agv{a z:Str}{lo hi:Nat}{i:Int}{σ:L2.St}{H:Hp}{Q:VK}(h0:σ[0]? = some (some (.int i)))(h1:a.length=1)(h2:a.cps.getD 0 0=lo)(h3:z.length=1)(h4:z.cps.getD 0 0=hi)(q:Q (.bl (decide ((lo:Int)<=i)&&decide (i<=(hi:Int)))) H):
  ari (rI0 λi j=>V.bl (decide (i<=j))) (rI0 λi j=>V.bl (decide (i<=j))) (tCB (λxs H Q=>∃x:Str,xs=[V.str x]/\x.length=1/\Q (V.int (x.cps.getD 0 0:Nat)) H) (lu (tC (V.str a)) jb)) (jc 0)
   (tCB (λxs H Q=>∃x:Str,xs=[V.str x]/\x.length=1/\Q (V.int (x.cps.getD 0 0:Nat)) H) (lu (tC (V.str z)) jb)) σ H Q:=by
 subst h2 h4
 refine⟨a,rfl,h1,_,h0,_,i,rfl,rfl,_,rfl,?_⟩
 cases e:decide (((a.cps.getD 0 0:Nat):Int)<=i)with
 | true =>
  rw[e,Bool.true_and]at q
  exact d9 ⟨z,rfl,h3,i,_,rfl,rfl,q⟩
 | false =>
  rw[e,Bool.false_and]at q
  exact gh q
theorem ayk{f:Addr}(F:Fn K "is_letter" "is_letter" aju ["byte"] f)(ho:mg "ord" = none):Def P w K mg base CX0 1 f ["byte"] (ad3 Hm.ym):=by
 refine F.ok0 a1x (λvs H Q E h=>?_) (λcdv A outer s H vs Q E hr h=>?_)
 ·obtain⟨i,rfl,_⟩:=h
  rfl
 ·obtain⟨i,rfl,q⟩:=h
  refine⟨_,bh (dj (adt (afb abf abf (jg zc (by rfl) ho PyProof.Rows.boot_ord (aj gj aq)) (pv 0) (jg zc (by rfl) ho PyProof.Rows.boot_ord (aj gj aq)))
   (afc (afb abf abf (jg zc (by rfl) ho PyProof.Rows.boot_ord (aj gj aq)) (pv 0) (jg zc (by rfl) ho PyProof.Rows.boot_ord (aj gj aq)))))),?_⟩
  refine agv (lo:=65) (hi:=90) rfl rfl rfl rfl rfl ⟨_,rfl,?_⟩
  cases e:(decide ((65:Int)<=i)&&decide (i<=(90:Int)))with
  | true =>
   refine d9 ?_
   have e2:Hm.ym i=true:=by unfold Hm.ym;rw[show(decide (65<=i)&&decide (i<=90))=true from e];rfl
   rw[e2]at q
   exact q
  | false =>
   refine gh (agv (lo:=97) (hi:=122) rfl rfl rfl rfl rfl ?_)
   have e2:Hm.ym i=(decide ((97:Int)<=i)&&decide (i<=(122:Int))):=by unfold Hm.ym;rw[show(decide (65<=i)&&decide (i<=90))=false from e];rfl
   rw[e2]at q
   exact q
theorem ayj{f:Addr}(F:Fn K "is_digit" "is_digit" ajt ["byte"] f)(ho:mg "ord" = none):Def P w K mg base CX0 1 f ["byte"] (ad3 Hm.aah):=by
 refine F.ok0 a1w (λvs H Q E h=>?_) (λcdv A outer s H vs Q E hr h=>?_)
 ·obtain⟨i,rfl,_⟩:=h
  rfl
 ·obtain⟨i,rfl,q⟩:=h
  refine⟨_,bh (dj (afb abf abf (jg zc (by rfl) ho PyProof.Rows.boot_ord (aj gj aq)) (pv 0) (jg zc (by rfl) ho PyProof.Rows.boot_ord (aj gj aq)))),?_⟩
  exact agv (lo:=48) (hi:=57) rfl rfl rfl rfl rfl q
def aqq(K:PySem.W.Frag)(C TF:Addr):Sp:=λvs H Q E=>∃(r a:Addr) (p:Nat) (b:Bytes),vs=[.ref r]/\jh C H r a p/\SqL K H a (bz b)/\(if p<b.length then Told TF E 1 p (az H)else Q .non H)
theorem aes{TF e dx2 l2:Addr}{H:Hp}{E:XK}{k p:V}(hne:H e=none)(g1:(upd H e (.ext (my e TF))) l2=none)(g2:(upd H e (.ext (my e TF))) dx2=none)(g3:dx2≠l2)
  (h:∀H',H' dx2=some (.xd [("told",.ref l2)])->H' l2=some (.lst [.int (-6),k,p])->az H H'->E (.ref TF) (some dx2) H') :
  E (.ref TF) (some dx2) (upd (upd (upd (upd (upd H e (.ext (my e TF))) l2 (.lst (V.int (-6)::[k,p]))) dx2 (.xd [("told",.ref l2)])) e (.ext (mq e TF dx2))) e (.ext (il e TF dx2))):=by
 have nl2:l2≠e:=λz=>by rw[z,ak]at g1;cases g1
 have nd2:dx2≠e:=λz=>by rw[z,ak]at g2;cases g2
 refine h _ ?_ ?_ λc u hc=>?_
 ·rw[ao nd2,ao nd2,ak]
 ·rw[ao nl2,ao nl2,ao (Ne.symm g3),ak]
 ·have nce:=bx hc hne
  rw[ao nce,ao nce,ao (λz=>?_),ao (λz=>?_),ao nce]
  ·exact hc
  ·rw[ao nl2]at g1
   rw[z,g1]at hc
   cases hc
  ·rw[ao nd2]at g2
   rw[z,g2]at hc
   cases hc
theorem ay3{f C TF:Addr}(F:Fn K "take_end" "Reader.take_end" ai3 ["self"] f)(T:RdT K mg C)(TD:TFd P w K mg base TF):Def P w K mg base (XC P w) 4 f ["self"] (aqq K C TF):=by
 obtain⟨fT,MT,DT⟩:=TD.make
 refine F.okX a1l (λvs H Q E h=>?_) (λcdv A outer s H vs Q E hr h=>?_)
 ·obtain⟨r,a,p,b,rfl,_⟩:=h
  rfl
 ·obtain⟨r,a,p,b,rfl,⟨dx,h1⟩,hs,q⟩:=h
  refine⟨_,bh (jl (iy zq (dw (pv 0) rfl) (jg xn (by rfl) T.len PySem.boot_len (aj (dw (pv 0) rfl) aq)) (gf _))
   (bh (wk rfl wz (ado MT DT hr rfl TD.at_ (by decide) bu (aj dm (aj (dw (pv 0) rfl) aq))))) jq),?_⟩
  refine⟨_,rfl,r,C,dx,_,.int p,rfl,h1,T.cl,T.nP,rfl,_,rfl,r,C,dx,_,.ref a,rfl,h1,T.cl,T.nC,rfl,a,_,rfl,.inl hs,_,_,rfl,rfl,_,rfl,?_⟩
  rw[uf]
  refine nj (λhc=>?_) λhc=>?_
  ·have hc:(p:Int)<(b.length:Int):=of_decide_eq_true hc
   rw[if_pos (by omega)]at q
   refine⟨_,rfl,r,C,dx,_,_,rfl,h1,T.cl,T.nP,rfl,λe hne=>?_⟩
   refine⟨e,[.int 1,.int (p:Int)],rfl,rfl,ak,TD.xa,λdx2 l2 g1 g2 g3=>⟨rfl,e,TF,dx2,rfl,ak,MT.xc,?_⟩⟩
   exact aes hne g1 g2 g3 λH' a1 a2 a3=>q dx2 l2 H' a1 a2 a3
  ·have hp:b.length<=p:=by simpa using hc
   rw[if_neg (by omega)]at q
   exact q
end
open Hm (wd restOf ie PF xj cur yf aaa)
def fc(mg:Str->Option Value)(x:Str)(n:Int):Prop:=∃u,mg x=some u/\RelV (.int n) u
def aq4(K:PySem.W.Frag)(C TF:Addr):Sp:=λvs H Q E=>∃(r a:Addr) (p:Nat) (b:Bytes),vs=[.ref r]/\jh C H r a p/\a≠r/\SqL K H a (bz b) /\
 (match Tafl.nameIn (cur b p)with
  | .ok (t,c)=>∀H' L,H L=none->H' L=some (.lst (bz t))->jh C H' r a c.at_->c=cur b c.at_->But r H H'->Q (.ref L) H'
  | .error q=>Told TF E 1 q (But r H))
def aqy(K:PySem.W.Frag)(C TF:Addr):Sp:=λvs H Q E=>∃(r a:Addr) (p:Nat) (b:Bytes),vs=[.ref r]/\jh C H r a p/\a≠r/\SqL K H a (bz b) /\
 (match Tafl.number 1 60000 (cur b p)with
  | .ok (n,c)=>∀H',jh C H' r a c.at_->c=cur b c.at_->But r H H'->Q (.int (n:Int)) H'
  | .error q=>Told TF E 1 q (But r H))
def ac1(C r a L:Addr)(H:Hp)(b:Bytes)(p:Nat)(m:Nat)(σ:L2.St)(H':Hp):Prop:=∃(k:Nat) (bt:Option V),m=16-k/\σ=[some (.ref r),some (.ref L),bt]/\H' L=some (.lst (bz ((b.drop p).take k)))/\jh C H' r a (p+k)/\But r H H'/\yf b p k
def akx(C r a:Addr)(H:Hp)(b:Bytes)(p:Nat)(m:Nat)(σ:L2.St)(H':Hp):Prop:=∃(k d:Nat) (lt:Option V),m=6-k/\σ=[some (.ref r),some (.int (d:Int)),lt]/\jh C H' r a (p+k)/\But r H H'/\aaa b p k d
theorem an7{b:Bytes}{p:Nat}:Hm.ym (peekAt b p)=match b[p]? with | some x=>Tafl.isLetter x | none=>false:=by
 unfold peekAt
 cases e:b[p]? with
 | none=>rfl
 | some x=>exact Hm.awg x
theorem afd{b:Bytes}{p:Nat}:Hm.aah (peekAt b p)=match b[p]? with | some x=>Tafl.isDigit x | none=>false:=by
 unfold peekAt
 cases e:b[p]? with
 | none=>rfl
 | some x=>exact Hm.aue x
theorem ahw{K:PySem.W.Frag}{mg:Str->Option Value}{C TF r a L:Addr}{H H':Hp}{b:Bytes}{p k:Nat}{bt:Option V}{Q:VK}{E:XK}{nx:L2.St->Hp->Prop}(xT:ni K TF "told")(xc:uy K TF)(T:RdT K mg C)(hLn:H L=none)
  (hLs:H' L=some (.lst (bz ((b.drop p).take k)))) (hrd:jh C H' r a (p+k)) (kp:But r H H') (hlen:(bz ((b.drop p).take k)).length=k)
  (q:match Tafl.nameIn (cur b p)with
   | .ok (t,c)=>∀H' L,H L=none->H' L=some (.lst (bz t))->jh C H' r a c.at_->c=cur b c.at_->But r H H'->Q (.ref L) H'
   | .error q=>Told TF E 1 q (But r H))
  (h:(k=0/\Tafl.nameIn (cur b p)=.error p)\/(0<k/\Tafl.nameIn (cur b p)=.ok ((b.drop p).take k,cur b (p+k)))) :
  aeb (af9 (arn λσ H Q=>jc 1 σ H λx H'=>∃k,aby K x H' k/\Q k H') (abv K E (wy TF (uv K TF 2 λys=>.int (-6)::ys) E0 (lu (tC (.int 1)) (lu (ad7 K (jc 0) "place") jb)))) agb) (aea (jc 1)) {nx:=nx,rt:=Q} [some (.ref r),some (.ref L),bt] H':=by
 refine⟨_,rfl,_,.inl ⟨_,SqL.of hLs,rfl⟩,?_⟩
 obtain⟨dx',hrd⟩:=hrd
 rcases h with ⟨rfl,he⟩ | ⟨hk,he⟩
 ·rw[he]at q
  have e0:bz ((b.drop p).take 0)=[]:=rfl
  rw[e0]
  refine d9 ⟨_,rfl,r,C,dx',_,_,rfl,hrd,T.cl,T.nP,rfl,λe hne=>?_⟩
  refine⟨e,[.int 1,.int ((p+0:Nat):Int)],rfl,rfl,ak,xT,λdx2 l2 g1 g2 g3=>⟨rfl,e,TF,dx2,rfl,ak,xc,?_⟩⟩
  exact aes hne g1 g2 g3 λH2 a1 a2 a3=>q dx2 l2 H2 a1 a2 λc u hc nc=>a3 c u (kp c u hc nc)
 ·rw[he]at q
  cases hb:bz ((b.drop p).take k)with
  | nil =>
   rw[hb]at hlen
   have:(0:Nat)=k:=hlen
   omega
  | cons x y =>
   refine gh ⟨_,rfl,?_⟩
   exact q H' L hLn hLs ⟨dx',hrd⟩ rfl kp
section
variable{P:Program}{w:World}{K:PySem.W.Frag}{mg:Str->Option Value}{base:Heap}
theorem ay6{f C TF:Addr}(F:Fn K "take_name" "Reader.take_name" ai6 ["self"] f)(T:RdT K mg C)(mP:MD P w K mg base C CX0 1 "peek" ["self"] (af4 K C))(TD:TFd P w K mg base TF)
  (gl:GD P w K mg base CX0 1 "is_letter" ["byte"] (ad3 Hm.ym)) (gd:GD P w K mg base CX0 1 "is_digit" ["byte"] (ad3 Hm.aah)) (hL:fc mg "LONGEST_NAME" 16) :
  Def P w K mg base (XC P w) 4 f ["self"] (aq4 K C TF):=by
 obtain⟨fT,MT,DT⟩:=TD.make
 obtain⟨fP,mP,DP⟩:=mP
 obtain⟨fl,gl,Dl⟩:=gl
 obtain⟨fd,gd,Dd⟩:=gd
 obtain⟨uL,hL,rL⟩:=hL
 refine F.okX ao6 (λvs H Q E h=>?_) (λcdv A outer s H vs Q E hr h=>?_)
 ·obtain⟨r,a,p,b,rfl,_⟩:=h
  rfl
 ·obtain⟨r,a,p,b,rfl,⟨dx,h1⟩,nar,hs,q⟩:=h
  have nd:=ao6.nd
  have hr1:=hr.mono (j:=1) (by decide)
  refine⟨_,au (cz (i:=1) nd rfl (Or.inl rfl) (ju aq))
   (au (afj PassesOwn.leaving (iy zq (jg xn (by rfl) T.len PySem.boot_len (aj (pv 1) aq)) (di rfl hL rL) (gf _))
    (au (cz (i:=2) nd rfl (Or.inl rfl) (jf (pv 0) T.cl mP DP hr1 bu))
    (au (jl (afl (u9 (uc (d8 Dl hr1 (by rfl) gl bu (aj (pv 2) aq)))) (afm (u9 (afl (abk (pv 1) (λ_=>rfl)) (afm (uc (d8 Dd hr1 (by rfl) gd bu (aj (pv 2) aq))))).pt))).pt (bh aoh) jq)
    (au (ig (su PySem.F.plainAttrs_list PySem.F.slot_list_append PySem.F.type_list_append ace (pv 1) (aj (pv 2) aq)))
    (bh (adz (pv 0) dm adg))))))
   (au (jl (u9 (abk (pv 1) (λ_=>rfl))) (bh (wk rfl wz (ado MT DT hr rfl TD.at_ (by decide) bu (aj dm (aj (dw (pv 0) rfl) aq))))) jq)
   (bh (dj (pv 1))))),?_⟩
  refine⟨Nat.zero_le _,λL hLn=>?_⟩
  have nrL:r≠L:=bx h1 hLn
  refine⟨ac1 C r a L H b p,⟨16,0,none,rfl,rfl,ak,⟨dx,by rw[ao nrL];exact h1⟩,But.refl.new hLn,Hm.nm0 b p⟩,?_⟩
  rintro m σ H' ⟨k,bt,rfl,rfl,hLs,⟨dx',hrd⟩,kp,nm⟩
  have hlen:(bz ((b.drop p).take k)).length=k:=by rw[uf];exact nm.len
  refine⟨_,rfl,L,_,rfl,.inl (SqL.of hLs),_,16,rfl,rfl,_,rfl,?_⟩
  rw[hlen]
  refine nj (λhc=>?_) λhc=>?_
  ·have hc:(k:Int)<16:=of_decide_eq_true hc
   have hk:k<16:=by omega
   have nrL2:L≠r:=gb hLs hrd (by intro z;cases z)
   refine⟨ac1 C r a L H b p (16-(k+1)),λσ2 H2 z=>⟨_,by omega,z⟩,?_⟩
   refine⟨_,rfl,r,dx',_,rfl,hrd,rfl,r,a,p+k,b,rfl,⟨dx',hrd⟩,kp.seq nar hs,?_⟩
   refine⟨_,rfl,_,rfl,_,rfl,?_⟩
   have go:∀x,b[p+k]? = some x->(Tafl.isLetter x=true\/(0<k/\Tafl.isDigit x=true))->ac1 C r a L H b p (16-(k+1)) [some (.ref r),some (.ref L),some (.int (peekAt b (p+k)))]
     (upd (upd H' L (.lst (bz ((b.drop p).take k)++[.int (peekAt b (p+k))]))) r (.ins C dx' (ik "place" (.int (((p+k:Nat):Int)+1)) (rf a (p+k))))):=λx ex hx=>by
    have ep:peekAt b (p+k)=(x.toNat:Int):=by unfold peekAt;rw[ex]
    refine⟨k+1,_,rfl,rfl,?_,⟨dx',by rw[ak,aik];rfl⟩,λc u hc nc=>?_,nm.step hk ex hx⟩
    ·rw[ao nrL2,ak,Hm.akk ex,ep]
     unfold bz
     rw[List.map_append]
     rfl
    ·rw[ao nc,ao (bx hc hLn)]
     exact kp c u hc nc
   have app:∀x,b[p+k]? = some x->(Tafl.isLetter x=true\/(0<k/\Tafl.isDigit x=true))->aeb (arj (tBM K "list" aol (jc 1) (lu (jc 2) jb))) (aoz K (jc 0) (tC (V.int 1)) aok "place")
     {nx:=ac1 C r a L H b p (16-(k+1)),rt:=Q,ct:=ac1 C r a L H b p (16-(k+1))} [some (.ref r),some (.ref L),some (.int (peekAt b (p+k)))] H':=λx ex hx=>by
    refine⟨_,rfl,.inl ⟨rfl,_,SqL.of hLs⟩,_,rfl,L,_,_,rfl,rfl,hLs,by rw[hlen,sizeLine_eq];omega,?_⟩
    have hrd2:(upd H' L (.lst (bz ((b.drop p).take k)++[.int (peekAt b (p+k))]))) r=some (.ins C dx' (rf a (p+k))):=by rw[ao nrL];exact hrd
    exact⟨_,rfl,r,C,dx',_,_,rfl,hrd2,T.cl,T.nP,rfl,_,1,rfl,rfl,dx',_,hrd2,by show 2<1000;decide,go x ex hx⟩
   have stop:(∀x,b[p+k]? = some x->Tafl.isLetter x=false/\(0<k->Tafl.isDigit x=false))->(k=0/\Tafl.nameIn (cur b p)=.error p)\/(0<k/\Tafl.nameIn (cur b p)=.ok ((b.drop p).take k,cur b (p+k))):=λhx=>by
    by_cases hk0:k=0
    ·subst hk0
     exact .inl ⟨rfl,Hm.aw2 λx ex=>(hx x ex).1⟩
    ·exact .inr ⟨by omega,nm.stop (by omega) λx ex=>⟨(hx x ex).1,(hx x ex).2 (by omega)⟩⟩
   cases el:Hm.ym (peekAt b (p+k))with
   | true =>
    rw[an7]at el
    refine gh (gh ?_)
    cases ex:b[p+k]? with
    | none=>rw[ex]at el;cases el
    | some x=>rw[ex]at el;exact app x ex (.inl el)
   | false =>
    rw[an7]at el
    refine d9 ⟨_,rfl,_,.inl ⟨_,SqL.of hLs,rfl⟩,?_⟩
    cases ee:(bz ((b.drop p).take k)).isEmpty with
    | true =>
     have hk0:k=0:=by
      rw[<-hlen,List.isEmpty_iff.mp ee]
      rfl
     refine gh (d9 (ahw TD.xa MT.xc T hLn hLs ⟨dx',hrd⟩ kp hlen q (stop λx ex=>⟨by rw[ex]at el;exact el,λz=>by omega⟩)))
    | false =>
     have hk0:0<k:=by
      rw[<-hlen]
      cases hb:bz ((b.drop p).take k)with
      | nil=>rw[hb]at ee;cases ee
      | cons _ _=>exact Nat.succ_pos _
     refine d9 ⟨_,rfl,_,rfl,_,rfl,?_⟩
     cases ed:Hm.aah (peekAt b (p+k))with
     | true =>
      rw[afd]at ed
      refine gh ?_
      cases ex:b[p+k]? with
      | none=>rw[ex]at ed;cases ed
      | some x=>rw[ex]at ed;exact app x ex (.inr ⟨hk0,ed⟩)
     | false =>
      rw[afd]at ed
      exact d9 (ahw TD.xa MT.xc T hLn hLs ⟨dx',hrd⟩ kp hlen q (stop λx ex=>⟨by rw[ex]at el;exact el,λ_=>by rw[ex]at ed;exact ed⟩))
  ·have hk:k=16:=by
    have h1:¬((k:Int)<16):=λz=>hc (decide_eq_true z)
    have:=nm.le
    omega
   subst hk
   exact ahw TD.xa MT.xc T hLn hLs ⟨dx',hrd⟩ kp hlen q (.inr ⟨by decide,nm.full⟩)
end
theorem ahm{K:PySem.W.Frag}{mg:Str->Option Value}{C TF r a:Addr}{H H':Hp}{b:Bytes}{p k d:Nat}{lt:Option V}{Q:VK}{E:XK}{nx:L2.St->Hp->Prop}(xT:ni K TF "told")(xc:uy K TF)(T:RdT K mg C)
  (hrd:jh C H' r a (p+k)) (kp:But r H H')
  (q:match Tafl.number 1 60000 (cur b p)with
   | .ok (n,c)=>∀H',jh C H' r a c.at_->c=cur b c.at_->But r H H'->Q (.int (n:Int)) H'
   | .error q=>Told TF E 1 q (But r H))
  (h:Tafl.number 1 60000 (cur b p)=if d=0 then .error (p+k)else .ok (d,cur b (p+k))) :
  aeb (af9 (agc (tOp rEq (jc 1) (tC (.int 0)))) (abv K E (wy TF (uv K TF 2 λys=>.int (-6)::ys) E0 (lu (tC (.int 1)) (lu (ad7 K (jc 0) "place") jb)))) agb) (aea (jc 1)) {nx:=nx,rt:=Q} [some (.ref r),some (.int (d:Int)),lt] H':=by
 obtain⟨dx',hrd⟩:=hrd
 refine⟨_,rfl,rfl,_,rfl,?_⟩
 refine nj (λhc=>?_) λhc=>?_
 ·have hd:d=0:=by
   have:=of_decide_eq_true hc
   injection this with this
   omega
  rw[h,if_pos hd]at q
  refine⟨_,rfl,r,C,dx',_,_,rfl,hrd,T.cl,T.nP,rfl,λe hne=>?_⟩
  refine⟨e,[.int 1,.int ((p+k:Nat):Int)],rfl,rfl,ak,xT,λdx2 l2 g1 g2 g3=>⟨rfl,e,TF,dx2,rfl,ak,xc,?_⟩⟩
  exact aes hne g1 g2 g3 λH2 a1 a2 a3=>q dx2 l2 H2 a1 a2 λc u hc nc=>a3 c u (kp c u hc nc)
 ·have hd:¬d=0:=λz=>hc (decide_eq_true (by rw[z];rfl))
  rw[h,if_neg hd]at q
  exact⟨_,rfl,q H' ⟨dx',hrd⟩ rfl kp⟩
section
variable{P:Program}{w:World}{K:PySem.W.Frag}{mg:Str->Option Value}{base:Heap}
theorem ay4{f C TF:Addr}(F:Fn K "take_limit" "Reader.take_limit" ai4 ["self"] f)(T:RdT K mg C)(mP:MD P w K mg base C CX0 1 "peek" ["self"] (af4 K C))(TD:TFd P w K mg base TF)
  (gd:GD P w K mg base CX0 1 "is_digit" ["byte"] (ad3 Hm.aah)) (hL:fc mg "GREATEST_LIMIT" 60000):Def P w K mg base (XC P w) 4 f ["self"] (aqy K C TF):=by
 obtain⟨fT,MT,DT⟩:=TD.make
 obtain⟨fP,mP,DP⟩:=mP
 obtain⟨fd,gd,Dd⟩:=gd
 obtain⟨uL,hL,rL⟩:=hL
 refine F.okX ao4 (λvs H Q E h=>?_) (λcdv A outer s H vs Q E hr h=>?_)
 ·obtain⟨r,a,p,b,rfl,_⟩:=h
  rfl
 ·obtain⟨r,a,p,b,rfl,⟨dx,h1⟩,nar,hs,q⟩:=h
  have nd:=ao4.nd
  have hr1:=hr.mono (j:=1) (by decide)
  refine⟨_,au (cz (i:=1) nd rfl (Or.inl rfl) dm)
   (au (afj PassesOwn.leaving (uc (d8 Dd hr1 (by rfl) gd bu (aj (jf (pv 0) T.cl mP DP hr1 bu) aq)))
    (au (cz (i:=2) nd rfl (Or.inl rfl) (gw aar (gw yr (gw ae9 dm (pv 1)) (jf (pv 0) T.cl mP DP hr1 bu)) (jg zc (by rfl) T.ord PyProof.Rows.boot_ord (aj gj aq))))
    (au (jl (yu (iy uq (pv 2) dm (gf _)) (ack (iy azl (pv 2) (di (by rfl) hL rL) (gf _)))).pt (bh aoh) jq)
    (au (cz (i:=1) nd rfl (Or.inl rfl) (pv 2))
    (bh (adz (pv 0) dm adg))))))
   (au (jl (iy uq (pv 1) dm (gf _)) (bh (wk rfl wz (ado MT DT hr rfl TD.at_ (by decide) bu (aj dm (aj (dw (pv 0) rfl) aq))))) jq)
   (bh (dj (pv 1))))),?_⟩
  refine⟨akx C r a H b p,⟨6,0,0,none,rfl,rfl,⟨dx,h1⟩,But.refl,Hm.lm0 b p⟩,?_⟩
  rintro m σ H' ⟨k,d,lt,rfl,rfl,⟨dx',hrd⟩,kp,lm⟩
  have seq:=kp.seq nar hs
  have hk5:=lm.k5
  have hle:=lm.le
  refine⟨_,rfl,r,dx',_,rfl,hrd,rfl,r,a,p+k,b,rfl,⟨dx',hrd⟩,seq,_,rfl,_,rfl,?_⟩
  cases ed:Hm.aah (peekAt b (p+k))with
  | false =>
   rw[afd]at ed
   refine gh (ahm TD.xa MT.xc T ⟨dx',hrd⟩ kp q (lm.stop λx ex hx=>?_))
   rw[ex]at ed
   rw[show Tafl.isDigit x=false from ed]at hx
   cases hx
  | true =>
   rw[afd]at ed
   obtain⟨x,ex,hx⟩:∃x,b[p+k]? = some x/\Tafl.isDigit x=true:=by
    cases ex:b[p+k]? with
    | none=>rw[ex]at ed;cases ed
    | some x=>rw[ex]at ed;exact⟨x,rfl,ed⟩
   have ep:peekAt b (p+k)=(x.toNat:Int):=by unfold peekAt;rw[ex]
   have hx48:48<=x.toNat:=by
    unfold Tafl.isDigit at hx
    simp only[Bool.and_eq_true,decide_eq_true_eq]at hx
    exact hx.1
   have eN:10*(d:Int)+peekAt b (p+k)-((48:Nat):Int)=((10*d+(x.toNat-48):Nat):Int):=by rw[ep];omega
   refine d9 ⟨akx C r a H b p (6-(k+1)),λσ2 H2 z=>?_,?_⟩
   ·obtain⟨k2,d2,lt2,e1,z⟩:=z
    have:=z.2.2.2.k5
    exact⟨_,by omega,k2,d2,lt2,e1,z⟩
   refine⟨_,rfl,_,_,rfl,rfl,.inl ⟨by decide,by decide⟩,_,rfl,r,dx',_,rfl,hrd,rfl,r,a,p+k,b,rfl,⟨dx',hrd⟩,seq,_,_,rfl,rfl,_,rfl,rfl,_,_,rfl,rfl,?_⟩
   have eN:10*(d:Int)+peekAt b (p+k)-(((Str.ofString "0").cps.getD 0 0:Nat):Int)=((10*d+(x.toNat-48):Nat):Int):=eN
   refine⟨_,rfl,rfl,_,rfl,?_⟩
   refine nj (λhc=>?_) λhc=>?_
   ·have hz:10*d+(x.toNat-48)=0:=by
     have:=of_decide_eq_true hc
     injection this with this
     omega
    refine d9 (ahm TD.xa MT.xc T ⟨dx',hrd⟩ kp q (lm.stop λy ey hy=>?_))
    rw[ex]at ey
    cases ey
    exact .inl hz
   ·have hz:0<10*d+(x.toNat-48):=by
     refine Nat.pos_of_ne_zero λz=>hc (decide_eq_true ?_)
     refine(congrArg V.int eN).trans ?_
     rw[z]
     rfl
    refine⟨_,rfl,_,_,rfl,rfl,_,rfl,?_⟩
    refine nj (λhc2=>?_) λhc2=>?_
    ·have hb:60000<10*d+(x.toNat-48):=by
      have:=of_decide_eq_true hc2
      omega
     refine ahm TD.xa MT.xc T ⟨dx',hrd⟩ kp q (lm.stop λy ey hy=>?_)
     rw[ex]at ey
     cases ey
     exact .inr hb
    ·have hb:10*d+(x.toNat-48)<=60000:=by
      refine Nat.le_of_not_lt λz=>hc2 (decide_eq_true ?_)
      omega
     refine⟨_,rfl,_,rfl,r,C,dx',_,_,rfl,hrd,T.cl,T.nP,rfl,_,1,rfl,rfl,dx',_,hrd,by show 2<1000;decide,?_⟩
     refine⟨k+1,_,_,rfl,congrArg (λz=>[some (V.ref r),some (V.int z),some (V.int z)]) eN,⟨dx',by rw[ak,aik];rfl⟩,kp.at,lm.step ex hx hz hb⟩
end
open Hm (wd restOf ie PF xj cur Sq oh iz pre)
def ug(c:Sq):List V:=[.int (c.1:Int),.int (c.2.1:Int),.str ⟨#[c.2.2.toNat]⟩]
def zb(H:Hp)(L:Addr)(cs:List Sq):Prop:=∃ps:List Addr,H L=some (.lst (ps.map V.ref))/\Paired (λp c=>H p=some (.tup (ug c))) ps cs
theorem m9{α β:Type}{F G:α->β->Prop}(k:∀a b,F a b->G a b):∀{l:List α}{m:List β},Paired F l m->Paired G l m
 | _,_,.nil=>.nil
 | _,_,.cons h t=>.cons (k _ _ h) (m9 k t)
theorem adn{α β:Type}{F:α->β->Prop}{a:α}{b:β}(h:F a b):∀{l:List α}{m:List β},Paired F l m->Paired F (l++[a]) (m++[b])
 | _,_,.nil=>.cons h .nil
 | _,_,.cons g t=>.cons g (adn h t)
theorem je{α β:Type}{F:α->β->Prop}:∀{l:List α}{m:List β},Paired F l m->l.length=m.length
 | _,_,.nil=>rfl
 | _,_,.cons _ t=>by rw[List.length_cons,List.length_cons,je t]
theorem zb.but{H H':Hp}{L r C dx:Addr}{cs:List Sq}{fs:List (Str×V)}(h:zb H L cs)(k:But r H H')(hr:H r=some (.ins C dx fs)):zb H' L cs:=by
 obtain⟨ps,h1,h2⟩:=h
 exact⟨ps,k _ _ h1 (gb h1 hr (by intro z;cases z)),m9 (λp c q=>k _ _ q (gb q hr (by intro z;cases z))) h2⟩
theorem zb.snoc{H:Hp}{L t:Addr}{cs:List Sq}{c:Sq}{ps:List Addr}(h1:H L=some (.lst (ps.map V.ref)))(h2:Paired (λp c=>H p=some (.tup (ug c))) ps cs)(ht:H t=none):
  zb (upd (upd H t (.tup (ug c))) L (.lst (ps.map V.ref++[.ref t]))) L (cs++[c]):=by
 have nLt:L≠t:=bx h1 ht
 refine⟨ps++[t],by rw[ak,List.map_append];rfl,adn (by rw[ao (Ne.symm nLt),ak]) (m9 (λp c' q=>?_) h2)⟩
 rw[ao (gb q h1 (by intro z;cases z)),ao (bx q ht)]
 exact q
def aqj(K:PySem.W.Frag)(C TF:Addr):Sp:=λvs H Q E=>∃(r a:Addr) (p wide high:Nat) (b signs:Bytes) (z:Str),vs=[.ref r,.int (wide:Int),.int (high:Int),.str z]/\jh C H r a p/\a≠r/\SqL K H a (bz b)/\wide<=1000/\high<=1000 /\
 z.cps.toList=signs.map UInt8.toNat/\signs.Nodup/\0<signs.length/\signs.length<=10 /\
 (match iz signs wide high (cur b p)with
  | .ok (cs,c)=>∀H' L,H L=none->zb H' L cs->jh C H' r a c.at_->c=cur b c.at_->But r H H'->Q (.ref L) H'
  | .error q=>Told TF E 1 q (But r H))
def asj(C r a L:Addr)(H:Hp)(b signs:Bytes)(z:Str)(p wide high:Nat)(i:Nat)(σ:L2.St)(H':Hp):Prop:=∃(cs:List Sq) (p':Nat) (y x pl:Option V),σ=[some (.ref r),some (.int (wide:Int)),some (.int (high:Int)),some (.str z),some (.ref L),y,x,pl] /\
 zb H' L cs/\jh C H' r a p'/\But r H H'/\cs.length=wide*i/\iz signs wide high (cur b p)=pre cs (iz signs wide (high-i) (cur b p'))
def asq(C r a L:Addr)(H:Hp)(b signs:Bytes)(z:Str)(p' wide high yy:Nat)(cs:List Sq)(j:Nat)(σ:L2.St)(H':Hp):Prop:=∃(cs':List Sq) (p2:Nat) (x pl:Option V),σ=[some (.ref r),some (.int (wide:Int)),some (.int (high:Int)),some (.str z),some (.ref L),some (.int (yy:Int)),x,pl] /\
 zb H' L (cs++cs')/\jh C H' r a p2/\But r H H'/\cs'.length=j/\oh signs yy 0 wide (cur b p')=pre cs' (oh signs yy j (wide-j) (cur b p2))
section
variable{P:Program}{w:World}{K:PySem.W.Frag}{mg:Str->Option Value}{base:Heap}
theorem ay1{f C TF:Addr}(F:Fn K "take_board" "Reader.take_board" ai2 ["self", "wide", "high", "signs"] f)(T:RdT K mg C)(hrev:mg "reversed" = none)(mC:MD P w K mg base C (XC P w) 4 "take_choice" ["self", "words"] (ad4 K C TF))
  (mW:MD P w K mg base C (XC P w) 5 "take_word" ["self", "word"] (ad5 K C TF)) (hR:fc mg "ROW" 13):Def P w K mg base (XC P w) 6 f ["self", "wide", "high", "signs"] (aqj K C TF):=by
 obtain⟨fC,mC,DC⟩:=mC
 obtain⟨fW,mW,DW⟩:=mW
 obtain⟨uR,hR,rR⟩:=hR
 refine F.okX ao2 (λvs H Q E h=>?_) (λcdv A outer s H vs Q E hr h=>?_)
 ·obtain⟨r,a,p,wide,high,b,signs,z,rfl,_⟩:=h
  rfl
 ·obtain⟨r,a,p,wide,high,b,signs,z,rfl,⟨dx,h1⟩,nar,hs,hw,hh,hz,snd,s0,s10,q⟩:=h
  have nd:=ao2.nd
  have hr4:=hr.mono (j:=4) (by decide)
  refine⟨_,au (cz (i:=4) nd rfl (Or.inl rfl) (ju aq))
   (au (t7 PassesOwn.leaving rfl (an9 (by rfl) hrev (aj (adp ags (by rfl) T.range boot_range (aj (pv 2) aq)) aq)) (gm (i:=5) nd rfl (Or.inl rfl))
    (au (t7 PassesOwn.leaving rfl (afe (by rfl) T.range (aj (pv 1) aq)) (gm (i:=6) nd rfl (Or.inl rfl))
     (au (cz (i:=7) nd rfl (Or.inl rfl) (dw (pv 0) rfl))
     (bh (ig (su PySem.F.plainAttrs_list PySem.F.slot_list_append PySem.F.type_list_append ace (pv 4)
      (aj (ur (aj (pv 7) (aj (gw yr (gw ae9 (di (by rfl) hR rR) (pv 5)) (pv 6)) (aj (gk ahh (pv 3) (n8 (pv 0) T.cl mC DC hr4 ir (aj (pv 3) aq)) (λ_ _=>rfl)) aq)))) aq))))))
    (bh (ig (n8 (pv 0) T.cl mW DW hr ir (aj gj aq))))))
   (bh (dj (pv 4)))),?_⟩
  refine⟨Nat.zero_le _,λL hLn=>?_⟩
  have nrL:r≠L:=bx h1 hLn
  refine⟨_,rfl,_,rfl,λpr hpr=>⟨pr,_,rfl,ak,by omega,by omega,?_⟩⟩
  have nrp:r≠pr:=bx (show upd H L (.lst []) r=_ by rw[ao nrL];exact h1) hpr
  have nLp:L≠pr:=bx ak hpr
  have eh:((high:Int)).toNat=high:=by omega
  rw[eh]
  refine amf (asj C r a L H b signs z p wide high) ⟨[],p,none,none,none,rfl,⟨[],by rw[ao nLp,ak];rfl,.nil⟩,⟨dx,by rw[ao nrp,ao nrL];exact h1⟩,(But.refl.new hLn).new hpr,rfl,(Hm.afh _).symm⟩ ?_ ?_
  ·rintro i σ H' hi ⟨cs,p',y0,x0,pl0,rfl,hB,⟨dx',hrd⟩,kp,hlen,he⟩
   have ey:(high:Int)-1+(i:Nat)*(-1:Int)=((high-1-i:Nat):Int):=by omega
   rw[ey]
   have eh1:high-i=(high-1-i)+1:=by omega
   refine⟨_,rfl,_,rfl,by omega,by omega,?_⟩
   have ew:((wide:Int)).toNat=wide:=by omega
   rw[ew]
   refine ag6 (lo:=0) (asq C r a L H b signs z p' wide high (high-1-i) cs) ⟨[],p',x0,pl0,rfl,by rw[List.append_nil];exact hB,⟨dx',hrd⟩,kp,rfl,(Hm.afh _).symm⟩ ?_ ?_
   ·rintro j σ2 H2 hj ⟨cs',p2,x1,pl1,rfl,hB2,⟨dx2,hrd2⟩,kp2,hl2,he2⟩
    obtain⟨ps,hL2,hP2⟩:=hB2
    have hlp:=je hP2
    rw[List.length_append,hlen,hl2]at hlp
    have hmul:wide*i<=1000*1000:=Nat.mul_le_mul hw (by omega)
    have eh2:wide-j=(wide-(j+1))+1:=by omega
    refine⟨_,rfl,r,C,dx2,_,.int p2,rfl,hrd2,T.cl,T.nP,rfl,?_⟩
    refine⟨_,rfl,.inl ⟨rfl,_,SqL.of hL2⟩,_,rfl,_,rfl,_,_,rfl,rfl,.inl ⟨by decide,by decide⟩,_,rfl,_,_,rfl,rfl,_,rfl,_,rfl,r,dx2,_,rfl,hrd2,rfl,_,rfl,?_⟩
    refine⟨r,a,.str z,p2,b,signs.map (λc=>[c]),rfl,⟨dx2,hrd2⟩,nar,kp2.seq nar hs,.inr ⟨z,signs,rfl,hz,rfl,by omega⟩,Hm.a0c snd,by rw[List.length_map];exact s0,by rw[List.length_map];omega,?_⟩
    by_cases hsg:∃k,∃(hk:k<signs.length),b[p2]? = some signs[k]
    ·obtain⟨k,hk,ek⟩:=hsg
     rw[Hm.one_sign snd hk ek]
     rintro H3 ⟨dx3,hrd3⟩ _ kp3
     have ezl:=str_len hz
     rw[List.length_map]at ezl
     refine⟨z,_,signs[k].toNat,rfl,rfl,by rw[ezl,sizeLine_eq];omega,gr (j:=k) (by rw[hz,List.getElem?_map,List.getElem?_eq_getElem hk];rfl),by show 3<=sizeLine;decide,λt ht=>?_⟩
     have hL3:H3 L=some (.lst (ps.map V.ref)):=kp3 _ _ hL2 (Ne.symm nrL)
     have nLt:L≠t:=bx hL3 ht
     have hP3:Paired (λp c=>H3 p=some (.tup (ug c))) ps (cs++cs'):=m9 (λp c q=>kp3 _ _ q (gb q hrd2 (by intro z;cases z))) hP2
     refine⟨L,_,_,rfl,rfl,by rw[ao nLt];exact hL3,by rw[List.length_map,sizeLine_eq];omega,?_⟩
     have ec:(13:Int)*((high-1-i:Nat):Int)+(0+(j:Int))=((13*(high-1-i)+j:Nat):Int):=by omega
     refine⟨cs'++[(p2,13*(high-1-i)+j,signs[k])],p2+1,_,_,rfl,?_,⟨dx3,?_⟩,λc u hc nc=>?_,by rw[List.length_append,hl2];rfl,?_⟩
     ·rw[<-List.append_assoc]
      have z1:=zb.snoc (c:=(p2,13*(high-1-i)+j,signs[k])) hL3 hP3 ht
      have e1:ug (p2,13*(high-1-i)+j,signs[k])=[V.int (p2:Int),V.int ((13:Int)*((high-1-i:Nat):Int)+(0+(j:Int))),V.str ⟨#[signs[k].toNat]⟩]:=by rw[ec];rfl
      rw[e1]at z1
      exact z1
     ·rw[ao nrL,ao (bx hrd3 ht)]
      exact hrd3
     ·have k3:=kp3 c u (kp2 c u hc nc) nc
      rw[ao (bx hc hLn),ao (bx k3 ht)]
      exact k3
     ·rw[he2,eh2,Hm.aow ek (List.getElem_mem hk),Hm.afi]
    ·have hno:∀s,b[p2]? = some s->s∉signs:=λs es hm=>by
      obtain⟨k,hk,e⟩:=List.getElem_of_mem hm
      exact hsg ⟨k,hk,by rw[es,e]⟩
     rw[Hm.azk hno]
     have eb:iz signs wide high (cur b p)=.error p2:=by
      rw[he,eh1]
      unfold iz
      rw[he2,eh2,Hm.aip hno]
      rfl
     rw[eb]at q
     exact jx q λH9 g=>kp2.trans g
   ·rintro σ2 H2 ⟨cs',p2,x1,pl1,rfl,hB2,⟨dx2,hrd2⟩,kp2,hl2,he2⟩
    rw[Nat.sub_self]at he2
    refine⟨_,rfl,r,dx2,_,rfl,hrd2,rfl,r,a,_,p2,b,[10],rfl,⟨dx2,hrd2⟩,nar,kp2.seq nar hs,rfl,by decide,?_⟩
    have er:oh signs (high-1-i) 0 wide (cur b p')=.ok (cs',cur b p2):=by rw[he2];show Except.ok (cs'++[],cur b p2)=_;rw[List.append_nil]
    cases el:Tafl.lit [10] (cur b p2)with
    | ok c =>
     rintro H3 ⟨dx3,hrd3⟩ ec kp3
     refine⟨cs++cs',c.at_,_,_,_,rfl,hB2.but kp3 hrd2,⟨dx3,hrd3⟩,kp2.trans kp3,by rw[List.length_append,hlen,hl2,Nat.mul_succ],?_⟩
     have e2:high-(i+1)=high-1-i:=by omega
     rw[he,eh1,e2]
     rw[iz,er]
     dsimp only
     rw[el]
     dsimp only
     rw[<-ec,<-Hm.afi]
     cases iz signs wide (high-1-i) c<;>rfl
    | error q0 =>
     have eb:iz signs wide high (cur b p)=.error q0:=by
      rw[he,eh1,iz,er]
      dsimp only
      rw[el]
      rfl
     rw[eb]at q
     exact jx q λH9 g=>kp2.trans g
  ·rintro σ H' ⟨cs,p',y0,x0,pl0,rfl,hB,hrd,kp,hlen,he⟩
   rw[Nat.sub_self]at he
   have eb:iz signs wide high (cur b p)=.ok (cs,cur b p'):=by rw[he];show Except.ok (cs++[],cur b p')=_;rw[List.append_nil]
   rw[eb]at q
   exact⟨_,rfl,q H' L hLn hB hrd rfl kp⟩
end
open Hm (wd restOf ie PF xj cur Sq oh iz pre Ln zf v8 ac0 Res AtB)
theorem aay(a:Addr):L2.RelV (V.ref a) (Value.ref a):=rfl
def fu{α:Type}(enc:α->List V)(H:Hp)(L:Addr)(cs:List α):Prop:=∃ps:List Addr,H L=some (.lst (ps.map V.ref))/\Paired (λp c=>H p=some (.tup (enc c))) ps cs
section
variable{α:Type}{enc:α->List V}
theorem fu.but{H H':Hp}{L r C dx:Addr}{cs:List α}{fs:List (Str×V)}(h:fu enc H L cs)(k:But r H H')(hr:H r=some (.ins C dx fs)):fu enc H' L cs:=by
 obtain⟨ps,h1,h2⟩:=h
 exact⟨ps,k _ _ h1 (gb h1 hr (by intro z;cases z)),m9 (λp c q=>k _ _ q (gb q hr (by intro z;cases z))) h2⟩
theorem fu.same{H H':Hp}{L:Addr}{cs:List α}(h:fu enc H L cs)(k:az H H'):fu enc H' L cs:=by
 obtain⟨ps,h1,h2⟩:=h
 exact⟨ps,k _ _ h1,m9 (λp c q=>k _ _ q) h2⟩
theorem fu.nil{H:Hp}{L:Addr}(h:H L=some (.lst [])):fu enc H L ([]:List α):=⟨[],h,.nil⟩
theorem fu.snoc{H:Hp}{L t:Addr}{cs:List α}{c:α}{ps:List Addr}(h1:H L=some (.lst (ps.map V.ref)))(h2:Paired (λp c=>H p=some (.tup (enc c))) ps cs)(ht:H t=none):
  fu enc (upd (upd H t (.tup (enc c))) L (.lst (ps.map V.ref++[.ref t]))) L (cs++[c]):=by
 have nLt:L≠t:=bx h1 ht
 refine⟨ps++[t],by rw[ak,List.map_append];rfl,adn (by rw[ao (Ne.symm nLt),ak]) (m9 (λp c' q=>?_) h2)⟩
 rw[ao (gb q h1 (by intro z;cases z)),ao (bx q ht)]
 exact q
end
def markV(m:Nat×Nat):List V:=[.int (m.1:Int),.int (m.2:Int)]
def o9(K:PySem.W.Frag)(v:V)(ws:List Bytes):Prop:=∃(a:Addr) (zs:List Str),v=.ref a/\(∀H,SqT K H a (zs.map V.str))/\zs.map (λz=>z.cps.toList)=ws.map (λw=>w.map UInt8.toNat)
theorem o9.words{K:PySem.W.Frag}{v:V}{ws:List Bytes}(h:o9 K v ws)(H:Hp):Words K H v ws:=let ⟨a,zs,e,h1,h2⟩:=h;.inl ⟨a,zs,e,h1 H,h2⟩
def aa6(K:PySem.W.Frag)(v:V)(l:Ln):Prop:=∃(a c:Addr) (z:Str) (vs:List V),v=.ref a/\(∀H,SqT K H a [.str z,.ref c])/\z.cps.toList=l.1.map UInt8.toNat/\(∀H,SqT K H c vs)/\Paired (o9 K) vs l.2
def aee(K:PySem.W.Frag)(mg:Str->Option Value)(ls:List Ln):Prop:=∃(a:Addr) (vs:List V),mg "LINES" = some (.ref a)/\(∀H,SqT K H a vs)/\Paired (aa6 K) vs ls
def aqz(K:PySem.W.Frag)(C TF:Addr)(ls:List Ln):Sp:=λvs H Q E=>∃(r a:Addr) (p:Nat) (b:Bytes),vs=[.ref r]/\jh C H r a p/\a≠r/\SqL K H a (bz b) /\
 Res (v8 ls (cur b p)) (λv=>∀H' L,H L=none->fu markV H' L v.1->jh C H' r a v.2.at_->AtB b v.2->But r H H'->Q (.ref L) H') (λq=>Told TF E 1 q (But r H))
def asn(C r a L:Addr)(H:Hp)(b:Bytes)(p:Nat)(ls:List Ln)(i:Nat)(σ:L2.St)(H':Hp):Prop:=∃(ms:List (Nat×Nat)) (p':Nat) (v2 v3 v4 v5:Option V),σ=[some (.ref r),some (.ref L),v2,v3,v4,v5] /\
 fu markV H' L ms/\jh C H' r a p'/\But r H H'/\ms.length<=10*i/\v8 ls (cur b p)=pre ms (v8 (ls.drop i) (cur b p'))
def asm(C r a L:Addr)(H:Hp)(b:Bytes)(p1:Nat)(cs:List (List Bytes))(ms:List (Nat×Nat))(v2 v3:V)(j:Nat)(σ:L2.St)(H':Hp):Prop:=∃(ms':List (Nat×Nat)) (p':Nat) (v4 v5:Option V),σ=[some (.ref r),some (.ref L),some v2,some v3,v4,v5] /\
 fu markV H' L (ms++ms')/\jh C H' r a p'/\But r H H'/\ms'.length=j/\zf cs (cur b p1)=pre ms' (zf (cs.drop j) (cur b p'))
section
variable{P:Program}{w:World}{K:PySem.W.Frag}{mg:Str->Option Value}{base:Heap}
theorem ay5{f C TF:Addr}{ls:List Ln}(F:Fn K "take_lines" "Reader.take_lines" ai5 ["self"] f)(T:RdT K mg C)(mC:MD P w K mg base C (XC P w) 4 "take_choice" ["self", "words"] (ad4 K C TF))
  (mW:MD P w K mg base C (XC P w) 5 "take_word" ["self", "word"] (ad5 K C TF)) (hL:aee K mg ls) (hok:∀l∈ls,ac0 l) (few:ls.length<=10):Def P w K mg base (XC P w) 6 f ["self"] (aqz K C TF ls):=by
 obtain⟨fC,mC,DC⟩:=mC
 obtain⟨fW,mW,DW⟩:=mW
 obtain⟨aL,vsL,mL,hvs,hpl⟩:=hL
 have hlen:=je hpl
 refine F.okX ao5 (λvs H Q E h=>?_) (λcdv A outer s H vs Q E hr h=>?_)
 ·obtain⟨r,a,p,b,rfl,_⟩:=h
  rfl
 ·obtain⟨r,a,p,b,rfl,⟨dx,h1⟩,nar,hs,q⟩:=h
  have nd:=ao5.nd
  have hr4:=hr.mono (j:=4) (by decide)
  refine⟨_,au (cz (i:=1) nd rfl (Or.inl rfl) (ju aq))
   (au (t7 PassesOwn.leaving rfl (adx (di (by rfl) mL (aay aL))) (abi rfl (jk (gm (i:=2) nd rfl (Or.inl rfl)) (jk (gm (i:=3) nd rfl (Or.inl rfl)) xu)))
    (au (ig (n8 (pv 0) T.cl mW DW hr ir (aj (pv 2) aq)))
    (au (t7 PassesOwn.leaving rfl (adx (pv 3)) (gm (i:=4) nd rfl (Or.inl rfl))
     (au (ig (n8 (pv 0) T.cl mW DW hr ir (aj gj aq)))
     (au (cz (i:=5) nd rfl (Or.inl rfl) (dw (pv 0) rfl))
     (bh (ig (su PySem.F.plainAttrs_list PySem.F.slot_list_append PySem.F.type_list_append ace (pv 1)
      (aj (ur (aj (pv 5) (aj (n8 (pv 0) T.cl mC DC hr4 ir (aj (pv 4) aq)) aq))) aq)))))))
    (bh (ig (n8 (pv 0) T.cl mW DW hr ir (aj gj aq)))))))
   (bh (dj (pv 1)))),?_⟩
  refine⟨Nat.zero_le _,λL hLn=>?_⟩
  have nrL:r≠L:=bx h1 hLn
  refine⟨aL,rfl,⟨_,hvs _⟩,?_⟩
  refine adb (K:=K) (a:=aL) (xs:=vsL) (asn C r a L H b p ls) ⟨[],p,none,none,none,none,rfl,.nil ak,⟨dx,by rw[ao nrL];exact h1⟩,But.refl.new hLn,Nat.zero_le _,(Hm.afh _).symm⟩ (λi σ H' _ _=>hvs _) ?_ ?_
  ·rintro i x σ H' hx ⟨ms,p',v2,v3,v4,v5,rfl,hT,⟨dx',hrd⟩,kp,hml,he⟩
   obtain⟨l,hl,aa,cc,z,vsC,rfl,hA,hz,hC,hPC⟩:=ph hpl hx
   have hin:i<ls.length:=(List.getElem?_eq_some_iff.mp hl).1
   have lok:=hok l (List.mem_of_getElem? hl)
   have hdrop:ls.drop i=l::ls.drop (i+1):=by
    rw[List.drop_eq_getElem_cons hin]
    congr 1
    exact(List.getElem?_eq_some_iff.mp hl).2
   rw[hdrop,v8]at he
   refine⟨aa,_,rfl,hA _,rfl,_,_,rfl,_,_,rfl,rfl,?_⟩
   refine⟨_,rfl,r,dx',_,rfl,hrd,rfl,_,rfl,r,a,z,p',b,l.1,rfl,⟨dx',hrd⟩,nar,kp.seq nar hs,hz,lok.hd,?_⟩
   cases el:Tafl.lit l.1 (cur b p')with
   | error q0 =>
    rw[el]at he
    rw[he]at q
    exact jx q λH9 g=>kp.trans g
   | ok d =>
    rw[el,Hm.jt]at he
    rintro H2 ⟨dx2,hrd2⟩ ed kp2
    refine⟨_,rfl,cc,rfl,⟨_,hC _⟩,?_⟩
    rw[ed]at he
    refine adb (K:=K) (a:=cc) (xs:=vsC) (asm C r a L H b d.at_ l.2 ms (.str z) (.ref cc)) ⟨[],d.at_,v4,v5,rfl,by rw[List.append_nil];exact hT.but kp2 hrd,⟨dx2,hrd2⟩,kp.trans kp2,rfl,(Hm.afh _).symm⟩ (λi σ H' _ _=>hC _) ?_ ?_
    ·rintro j x σ3 H3 hx ⟨ms',p3,v4,v5,rfl,hT3,⟨dx3,hrd3⟩,kp3,hml3,he3⟩
     obtain⟨ws,hw,hW⟩:=ph hPC hx
     have hjn:j<l.2.length:=(List.getElem?_eq_some_iff.mp hw).1
     have wok:=lok.ws ws (List.mem_of_getElem? hw)
     have lf:=lok.few
     have hdrop2:l.2.drop j=ws::l.2.drop (j+1):=by
      rw[List.drop_eq_getElem_cons hjn]
      congr 1
      exact(List.getElem?_eq_some_iff.mp hw).2
     rw[hdrop2,zf]at he3
     refine⟨_,rfl,r,dx3,_,rfl,hrd3,rfl,r,a,_,p3,b,[32],rfl,⟨dx3,hrd3⟩,nar,kp3.seq nar hs,rfl,by decide,?_⟩
     cases el3:Tafl.lit [32] (cur b p3)with
     | error q0 =>
      rw[el3]at he3
      rw[he3]at he
      rw[he]at q
      exact jx q λH9 g=>kp3.trans g
     | ok d3 =>
      rw[el3,Hm.jt]at he3
      rintro H4 ⟨dx4,hrd4⟩ ed3 kp4
      have kp04:=kp3.trans kp4
      rw[ed3]at he3
      obtain⟨ps,hL4,hP4⟩:=hT3.but kp4 hrd3
      have hlp:=je hP4
      rw[List.length_append]at hlp
      refine⟨_,rfl,r,C,dx4,_,_,rfl,hrd4,T.cl,T.nP,rfl,?_⟩
      refine⟨_,rfl,.inl ⟨rfl,_,SqL.of hL4⟩,_,rfl,_,rfl,r,dx4,_,rfl,hrd4,rfl,_,rfl,?_⟩
      refine⟨r,a,x,d3.at_,b,ws,rfl,⟨dx4,hrd4⟩,nar,kp04.seq nar hs,hW.words _,wok.1,wok.2.1,wok.2.2,?_⟩
      cases eo:Tafl.oneOf 16 (ie ws) (cur b d3.at_)with
      | error q0 =>
       rw[eo]at he3
       rw[he3]at he
       rw[he]at q
       exact jx q λH9 g=>kp04.trans g
      | ok v =>
       obtain⟨k,c5⟩:=v
       rw[eo,Hm.jt]at he3
       rintro H5 ⟨dx5,hrd5⟩ ed5 kp5
       have ed5:c5=cur b c5.at_:=ed5
       refine⟨by show 2<=sizeLine;decide,λt ht=>?_⟩
       have hL5:H5 L=some (.lst (ps.map V.ref)):=kp5 _ _ hL4 (Ne.symm nrL)
       have nLt:L≠t:=bx hL5 ht
       have hP5:Paired (λp c=>H5 p=some (.tup (markV c))) ps (ms++ms'):=m9 (λp c q=>kp5 _ _ q (gb q hrd4 (by intro z;cases z))) hP4
       refine⟨L,_,_,rfl,rfl,by rw[ao nLt];exact hL5,by rw[List.length_map,sizeLine_eq];omega,?_⟩
       refine⟨ms'++[(d3.at_,k)],c5.at_,_,_,rfl,?_,⟨dx5,?_⟩,λc u hc nc=>?_,by rw[List.length_append,hml3];rfl,?_⟩
       ·rw[<-List.append_assoc]
        exact fu.snoc (enc:=markV) (c:=(d3.at_,k)) hL5 hP5 ht
       ·rw[ao nrL,ao (bx hrd5 ht)]
        exact hrd5
       ·have k3:=kp5 c u (kp04 c u hc nc) nc
        rw[ao (bx hc hLn),ao (bx k3 ht)]
        exact k3
       ·rw[he3,<-ed5,Hm.afi]
        rfl
    ·rintro σ3 H3 ⟨ms',p3,v4,v5,rfl,hT3,⟨dx3,hrd3⟩,kp3,hml3,he3⟩
     have ePl:=je hPC
     rw[ePl,List.drop_length]at he3
     have he3:zf l.2 (cur b d.at_)=.ok (ms',cur b p3):=by rw[he3];show Except.ok (ms'++[],cur b p3)=_;rw[List.append_nil]
     rw[he3,Hm.jt]at he
     refine⟨_,rfl,r,dx3,_,rfl,hrd3,rfl,r,a,_,p3,b,[10],rfl,⟨dx3,hrd3⟩,nar,kp3.seq nar hs,rfl,by decide,?_⟩
     dsimp only at he
     cases el3:Tafl.lit [10] (cur b p3)with
     | error q0 =>
      rw[el3]at he
      rw[he]at q
      exact jx q λH9 g=>kp3.trans g
     | ok d3 =>
      rw[el3,Hm.jt]at he
      rintro H4 ⟨dx4,hrd4⟩ ed3 kp4
      have lf:=lok.few
      refine⟨ms++ms',d3.at_,_,_,_,_,rfl,hT3.but kp4 hrd3,⟨dx4,hrd4⟩,kp3.trans kp4,by rw[List.length_append,hml3,ePl];omega,?_⟩
      rw[he,<-ed3,Hm.afi]
  ·rintro σ H' ⟨ms,p',v2,v3,v4,v5,rfl,hT,hrd,kp,hml,he⟩
   rw[hlen,List.drop_length]at he
   have eb:v8 ls (cur b p)=.ok (ms,cur b p'):=by rw[he];show Except.ok (ms++[],cur b p')=_;rw[List.append_nil]
   rw[eb]at q
   exact⟨_,rfl,q H' L hLn hT hrd rfl kp⟩
end
open Hm (wd restOf ie PF xj cur Sq oh iz pre Ln zf v8 ac0 Res AtB aak yx Sh)
def shf(nm wide high g s m lim len:V):List (Str×V):=[("name",nm),("wide",wide),("high",high),("ground",g),("start",s),("marks",m),("limit",lim),("length",len)]
structure ShT(K:PySem.W.Frag)(C:Addr):Prop where
 cl:Cls K C
 nName:jn K C "name"
 nWide:jn K C "wide"
 nHigh:jn K C "high"
 nGround:jn K C "ground"
 nStart:jn K C "start"
 nMarks:jn K C "marks"
 nLimit:jn K C "limit"
 nLength:jn K C "length"
def aq6(C:Addr):Sp:=λvs H Q _=>∃(r a dx:Addr),vs=[.ref r,.ref a]/\H r=some (.ins C dx [])/\Q .non (upd (upd H r (.ins C dx [("codes",.ref a)])) r (.ins C dx (rf a 0)))
def aq8(C:Addr):Sp:=λvs H Q _=>∃(x dx:Addr) (nm wide high:V),vs=[.ref x,nm,wide,high]/\H x=some (.ins C dx []) /\
 ∀H' g s m,H' x=some (.ins C dx (shf nm wide high (.ref g) (.ref s) (.ref m) (.int 0) (.int 0)))->But x H H'->Q .non H'
def agj(K:PySem.W.Frag)(mg:Str->Option Value)(x:Str)(ws:List Bytes):Prop:=∃a,mg x=some (.ref a)/\o9 K (.ref a) ws
def ux(mg:Str->Option Value)(x:Str)(cs:Bytes):Prop:=∃(z:Str) (u:Value),mg x=some u/\RelV (.str z) u/\z.cps.toList=cs.map UInt8.toNat
section
variable{P:Program}{w:World}{K:PySem.W.Frag}{mg:Str->Option Value}{base:Heap}
theorem axn{f C:Addr}(F:Fn K "__init__" "Reader.__init__" ai0 ["self", "codes"] f)(T:RdT K mg C):Def P w K mg base CX0 1 f ["self", "codes"] (aq6 C):=by
 refine F.ok0 a1j (λvs H Q E h=>?_) (λcdv A outer s H vs Q E hr h=>?_)
 ·obtain⟨r,a,dx,rfl,_⟩:=h
  rfl
 ·obtain⟨r,a,dx,rfl,h1,q⟩:=h
  refine⟨_,au (jw (pv 0) (pv 1) rfl) (bh (jw (pv 0) dm rfl)),?_⟩
  refine⟨_,rfl,_,rfl,r,C,dx,_,rfl,h1,T.cl,T.nC,by decide,_,rfl,r,C,dx,_,rfl,ak,T.cl,T.nP,by show 1<1000;decide,q⟩
theorem axr{f C:Addr}(F:Fn K "__init__" "Sheet.__init__" ai9 ["self", "name", "wide", "high"] f)(T:ShT K C):Def P w K mg base CX0 1 f ["self", "name", "wide", "high"] (aq8 C):=by
 refine F.ok0 a1o (λvs H Q E h=>?_) (λcdv A outer s H vs Q E hr h=>?_)
 ·obtain⟨x,dx,nm,wide,high,rfl,_⟩:=h
  rfl
 ·obtain⟨x,dx,nm,wide,high,rfl,h1,q⟩:=h
  refine⟨_,au (jw (pv 0) (pv 1) rfl) (au (jw (pv 0) (pv 2) rfl) (au (jw (pv 0) (pv 3) rfl)
   (au (jw (pv 0) (ju aq) rfl) (au (jw (pv 0) (ju aq) rfl) (au (jw (pv 0) (ju aq) rfl)
   (au (jw (pv 0) dm rfl) (bh (jw (pv 0) dm rfl)))))))),?_⟩
  refine⟨_,rfl,_,rfl,x,C,dx,_,rfl,h1,T.cl,T.nName,by decide,?_⟩
  refine⟨_,rfl,_,rfl,x,C,dx,_,rfl,ak,T.cl,T.nWide,by show 1<1000;decide,?_⟩
  refine⟨_,rfl,_,rfl,x,C,dx,_,rfl,ak,T.cl,T.nHigh,by show 2<1000;decide,?_⟩
  refine⟨Nat.zero_le _,λg hg=>⟨_,rfl,x,C,dx,_,rfl,(ao (bx ak hg)).trans ak,T.cl,T.nGround,by show 3<1000;decide,?_⟩⟩
  refine⟨Nat.zero_le _,λs hs=>⟨_,rfl,x,C,dx,_,rfl,(ao (bx ak hs)).trans ak,T.cl,T.nStart,by show 4<1000;decide,?_⟩⟩
  refine⟨Nat.zero_le _,λm hm=>⟨_,rfl,x,C,dx,_,rfl,(ao (bx ak hm)).trans ak,T.cl,T.nMarks,by show 5<1000;decide,?_⟩⟩
  refine⟨_,rfl,x,C,dx,_,rfl,ak,T.cl,T.nLimit,by show 6<1000;decide,?_⟩
  refine⟨_,rfl,x,C,dx,_,rfl,ak,T.cl,T.nLength,by show 7<1000;decide,?_⟩
  refine q _ g s m ak ?_
  exact(((((((((But.refl.at).at).at).new hg).at).new hs).at).new hm).at).at.at
def aqw(K:PySem.W.Frag)(C CS TF:Addr):Sp:=λvs H Q E=>∃(r a:Addr) (p:Nat) (b:Bytes),vs=[.ref r]/\jh C H r a p/\a≠r/\SqL K H a (bz b) /\
 Res (aak (cur b p)) (λv=>∀H' sh dx nm g s m,H sh=none->sh≠r->H' sh=some (.ins CS dx (shf (.ref nm) (.int (v.1.2.1:Int)) (.int (v.1.2.2:Int)) (.ref g) (.ref s) (.ref m) (.int 0) (.int 0)))->H' nm=some (.lst (bz v.1.1))->jh C H' r a v.2.at_->AtB b v.2->But r H H'->Q (.ref sh) H')
  (λq=>Told TF E 1 q (But r H))
theorem ayv{f C CS TF:Addr}(F:Fn K "read_head" "read_head" aj0 ["reader"] f)(T:RdT K mg C)(mW:MD P w K mg base C (XC P w) 5 "take_word" ["self", "word"] (ad5 K C TF))(mN:MD P w K mg base C (XC P w) 4 "take_name" ["self"] (aq4 K C TF))
  (mC:MD P w K mg base C (XC P w) 4 "take_choice" ["self", "words"] (ad4 K C TF)) (hZ:agj K mg "SIZES" Hm.SIZES) (h5:fc mg "LEAST_SIZE" 5) (mS:∃fS,Mk K CS fS/\Def P w K mg base CX0 1 fS ["self", "name", "wide", "high"] (aq8 CS)) (gS:mg "Sheet" = some (.ref CS)) :
  Def P w K mg base (XC P w) 6 f ["reader"] (aqw K C CS TF):=by
 obtain⟨fW,mW,DW⟩:=mW
 obtain⟨fN,mN,DN⟩:=mN
 obtain⟨fC,mC,DC⟩:=mC
 obtain⟨aZ,hZ,wZ⟩:=hZ
 obtain⟨u5,h5,r5⟩:=h5
 obtain⟨fS,mS,DS⟩:=mS
 refine F.okX apy (λvs H Q E h=>?_) (λcdv A outer s H vs Q E hr h=>?_)
 ·obtain⟨r,a,p,b,rfl,_⟩:=h
  rfl
 ·obtain⟨r,a,p,b,rfl,⟨dx,h1⟩,nar,hs,q⟩:=h
  have nd:=apy.nd
  have hr4:=hr.mono (j:=4) (by decide)
  have hr2:=hr.mono (j:=2) (by decide)
  refine⟨_,au (ig (n8 (pv 0) T.cl mW DW hr ir (aj gj aq)))
   (au (cz (i:=1) nd rfl (Or.inl rfl) (jf (pv 0) T.cl mN DN hr4 ir))
   (au (ig (n8 (pv 0) T.cl mW DW hr ir (aj gj aq)))
   (au (cz (i:=2) nd rfl (Or.inl rfl) (gw yr (di (by rfl) h5 r5) (n8 (pv 0) T.cl mC DC hr4 ir (aj (di (by rfl) hZ (aay aZ)) aq))))
   (au (ig (n8 (pv 0) T.cl mW DW hr ir (aj gj aq)))
   (au (cz (i:=3) nd rfl (Or.inl rfl) (gw yr (di (by rfl) h5 r5) (n8 (pv 0) T.cl mC DC hr4 ir (aj (di (by rfl) hZ (aay aZ)) aq))))
   (au (ig (n8 (pv 0) T.cl mW DW hr ir (aj gj aq)))
   (bh (dj (afa mS DS hr2 rfl gS bu (aj (pv 1) (aj (pv 2) (aj (pv 3) aq))))))))))))  ,?_⟩
  unfold aak at q
  refine⟨_,rfl,r,dx,_,rfl,h1,rfl,r,a,_,p,b,Tafl.ascii "tafl ",rfl,⟨dx,h1⟩,nar,hs,by decide +kernel,by decide +kernel,?_⟩
  cases e1:Tafl.lit (Tafl.ascii "tafl ") (cur b p)with
  | error q0=>rw[e1]at q;exact q
  | ok c1 =>
  rw[e1,Hm.jt]at q
  rintro H1 ⟨dx1,hr1⟩ ec1 k1
  rw[ec1]at q
  refine⟨_,rfl,r,dx1,_,rfl,hr1,rfl,r,a,_,b,rfl,⟨dx1,hr1⟩,nar,k1.seq nar hs,?_⟩
  cases e2:Tafl.nameIn (cur b c1.at_)with
  | error q0=>rw[e2]at q;exact jx q λH9 g=>k1.trans g
  | ok n =>
  obtain⟨n,c2⟩:=n
  rw[e2,Hm.jt]at q
  rintro H2 nm hnm0 hnm ⟨dx2,hr2'⟩ ec2 k2
  have ec2:c2=cur b c2.at_:=ec2
  have k02:=k1.trans k2
  have q:Res (Tafl.lit [32] c2 >>= _) _ _:=q
  rw[ec2]at q
  refine⟨_,rfl,r,dx2,_,rfl,hr2',rfl,r,a,_,c2.at_,b,[32],rfl,⟨dx2,hr2'⟩,nar,k02.seq nar hs,rfl,by decide,?_⟩
  cases e3:Tafl.lit [32] (cur b c2.at_)with
  | error q0=>rw[e3]at q;exact jx q λH9 g=>k02.trans g
  | ok c3 =>
  rw[e3,Hm.jt]at q
  rintro H3 ⟨dx3,hr3⟩ ec3 k3
  have k03:=k02.trans k3
  rw[ec3]at q
  refine⟨_,rfl,r,dx3,_,rfl,hr3,rfl,r,a,_,c3.at_,b,Hm.SIZES,rfl,⟨dx3,hr3⟩,nar,k03.seq nar hs,wZ.words _,Hm.aqf,by decide,by decide,?_⟩
  cases e4:Tafl.oneOf 16 (ie Hm.SIZES) (cur b c3.at_)with
  | error q0=>rw[e4]at q;exact jx q λH9 g=>k03.trans g
  | ok v4 =>
  obtain⟨wi,c4⟩:=v4
  rw[e4,Hm.jt]at q
  rintro H4 ⟨dx4,hr4'⟩ ec4 k4
  have ec4:c4=cur b c4.at_:=ec4
  have k04:=k03.trans k4
  have q:Res (Tafl.lit [32] c4 >>= _) _ _:=q
  rw[ec4]at q
  refine⟨_,_,rfl,rfl,?_⟩
  refine⟨_,rfl,r,dx4,_,rfl,hr4',rfl,r,a,_,c4.at_,b,[32],rfl,⟨dx4,hr4'⟩,nar,k04.seq nar hs,rfl,by decide,?_⟩
  cases e5:Tafl.lit [32] (cur b c4.at_)with
  | error q0=>rw[e5]at q;exact jx q λH9 g=>k04.trans g
  | ok c5 =>
  rw[e5,Hm.jt]at q
  rintro H5 ⟨dx5,hr5⟩ ec5 k5
  have k05:=k04.trans k5
  rw[ec5]at q
  refine⟨_,rfl,r,dx5,_,rfl,hr5,rfl,r,a,_,c5.at_,b,Hm.SIZES,rfl,⟨dx5,hr5⟩,nar,k05.seq nar hs,wZ.words _,Hm.aqf,by decide,by decide,?_⟩
  cases e6:Tafl.oneOf 16 (ie Hm.SIZES) (cur b c5.at_)with
  | error q0=>rw[e6]at q;exact jx q λH9 g=>k05.trans g
  | ok v6 =>
  obtain⟨hi,c6⟩:=v6
  rw[e6,Hm.jt]at q
  rintro H6 ⟨dx6,hr6⟩ ec6 k6
  have ec6:c6=cur b c6.at_:=ec6
  have k06:=k05.trans k6
  have q:Res (Tafl.lit [10] c6 >>= _) _ _:=q
  rw[ec6]at q
  refine⟨_,_,rfl,rfl,?_⟩
  refine⟨_,rfl,r,dx6,_,rfl,hr6,rfl,r,a,_,c6.at_,b,[10],rfl,⟨dx6,hr6⟩,nar,k06.seq nar hs,rfl,by decide,?_⟩
  cases e7:Tafl.lit [10] (cur b c6.at_)with
  | error q0=>rw[e7]at q;exact jx q λH9 g=>k06.trans g
  | ok c7 =>
  rw[e7,Hm.jt]at q
  rintro H7 ⟨dx7,hr7⟩ ec7 k7
  have k07:=k06.trans k7
  refine⟨_,rfl,_,rfl,_,rfl,λx dx8 nx ndx ndxx=>?_⟩
  refine⟨x,dx8,.ref nm,_,_,rfl,ak,λH8 g s m hx8 k8=>⟨rfl,?_⟩⟩
  have nrx:r≠x:=bx hr7 nx
  have hnm7:H7 nm=some (.lst (bz n)):=by
   have z1:=k3 _ _ hnm (gb hnm hr2' (by intro z;cases z))
   have z2:=k4 _ _ z1 (gb z1 hr3 (by intro z;cases z))
   have z3:=k5 _ _ z2 (gb z2 hr4' (by intro z;cases z))
   have z4:=k6 _ _ z3 (gb z3 hr5 (by intro z;cases z))
   exact k7 _ _ z4 (gb z4 hr6 (by intro z;cases z))
  have s8:az H7 H8:=az.made nx ndx k8
  refine q H8 x dx8 nm g s m ?_ (Ne.symm nrx) ?_ (s8 _ _ hnm7) ⟨dx7,s8 _ _ hr7⟩ ec7 (λc u hc nc=>s8 _ _ (k07 c u hc nc))
  ·cases z:H x with
   | none=>rfl
   | some o =>
    have:=k07 x o z (Ne.symm nrx)
    rw[nx]at this
    cases this
  ·rw[hx8]
   rfl
end
def yg(CS:Addr)(H:Hp)(sh:Addr)(s:Sh)(len:Nat):Prop:=∃dx nm g st m,H sh=some (.ins CS dx (shf (.ref nm) (.int (s.wide:Int)) (.int (s.high:Int)) (.ref g) (.ref st) (.ref m) (.int (s.limit:Int)) (.int (len:Int)))) /\
 H nm=some (.lst (bz s.name))/\fu ug H g s.ground/\fu ug H st s.start/\fu markV H m s.marks
theorem yg.same{CS:Addr}{H H':Hp}{sh:Addr}{s:Sh}{len:Nat}(h:yg CS H sh s len)(k:az H H'):yg CS H' sh s len:=by
 obtain⟨dx,nm,g,st,m,h1,h2,h3,h4,h5⟩:=h
 exact⟨dx,nm,g,st,m,k _ _ h1,k _ _ h2,h3.same k,h4.same k,h5.same k⟩
theorem ou{H H1 H2:Hp}{r:Addr}(s:az H H1)(n:H r=none)(k:But r H1 H2):az H H2:=λb o hb=>k b o (s b o hb) (bx hb n)
theorem ji{H H1:Hp}{r:Addr}{o:HO}(s:az H H1)(n:H r=none):az H (upd H1 r o):=ou s n But.refl.at
theorem dz{H H1:Hp}{r:Addr}{o:HO}(s:az H H1)(n:H1 r=none):az H (upd H1 r o):=λb u hb=>by rw[ao (bx (s b u hb) n)];exact s b u hb
theorem pq{H H':Hp}{L r C dx:Addr}{xs:List V}{fs:List (Str×V)}(h:H L=some (.lst xs))(k:But r H H')(hr:H r=some (.ins C dx fs)):H' L=some (.lst xs):=k _ _ h (gb h hr (by intro z;cases z))
def aq9(K:PySem.W.Frag)(CS TF:Addr):Sp:=λvs H Q E=>∃(a:Addr) (b:Bytes),vs=[.ref a]/\H a=some (.lst (bz b)) /\
 Res (yx b) (λs=>∀H' sh,H sh=none->yg CS H' sh s b.length->az H H'->Q (.ref sh) H') (λq=>Told TF E 1 q (az H))
section
variable{P:Program}{w:World}{K:PySem.W.Frag}{mg:Str->Option Value}{base:Heap}
theorem ayw{f C CS TF:Addr}(F:Fn K "read_sheet" "read_sheet" aj1 ["codes"] f)(T:RdT K mg C)(TS:ShT K CS)(mR:∃fR,Mk K C fR/\Def P w K mg base CX0 1 fR ["self", "codes"] (aq6 C))(gR:mg "Reader" = some (.ref C))
  (gH:GD P w K mg base (XC P w) 6 "read_head" ["reader"] (aqw K C CS TF)) (mW:MD P w K mg base C (XC P w) 5 "take_word" ["self", "word"] (ad5 K C TF)) (mB:MD P w K mg base C (XC P w) 6 "take_board" ["self", "wide", "high", "signs"] (aqj K C TF))
  (mL:MD P w K mg base C (XC P w) 6 "take_lines" ["self"] (aqz K C TF Hm.LINES)) (mM:MD P w K mg base C (XC P w) 4 "take_limit" ["self"] (aqy K C TF)) (mE:MD P w K mg base C (XC P w) 4 "take_end" ["self"] (aqq K C TF))
  (hG:ux mg "GROUND_SIGNS" Hm.GS) (hS:ux mg "START_SIGNS" Hm.SS):Def P w K mg base (XC P w) 7 f ["codes"] (aq9 K CS TF):=by
 obtain⟨fR,mR,DR⟩:=mR
 obtain⟨fH,gH,DH⟩:=gH
 obtain⟨fW,mW,DW⟩:=mW
 obtain⟨fB,mB,DB⟩:=mB
 obtain⟨fL,mL,DL⟩:=mL
 obtain⟨fM,mM,DM⟩:=mM
 obtain⟨fE,mE,DE⟩:=mE
 obtain⟨zG,uG,hG,rG,eG⟩:=hG
 obtain⟨zS,uS,hS,rS,eS⟩:=hS
 refine F.okX apz (λvs H Q E h=>?_) (λcdv A outer s H vs Q E hr h=>?_)
 ·obtain⟨a,b,rfl,_⟩:=h
  rfl
 ·obtain⟨a,b,rfl,ha,q⟩:=h
  have nd:=apz.nd
  have hr5:=hr.mono (j:=5) (by decide)
  have hr4:=hr.mono (j:=4) (by decide)
  have hr2:=hr.mono (j:=2) (by decide)
  refine⟨_,au (cz (i:=1) nd rfl (Or.inl rfl) (afa mR DR hr2 rfl gR bu (aj (pv 0) aq)))
   (au (cz (i:=2) nd rfl (Or.inl rfl) (d8 DH hr rfl gH ir (aj (pv 1) aq)))
   (au (ig (n8 (pv 1) T.cl mW DW hr5 ir (aj gj aq)))
   (au (jw (pv 2) (n8 (pv 1) T.cl mB DB hr ir (aj (dw (pv 2) rfl) (aj (dw (pv 2) rfl) (aj (di (by rfl) hG rG) aq)))) rfl)
   (au (ig (n8 (pv 1) T.cl mW DW hr5 ir (aj gj aq)))
   (au (jw (pv 2) (n8 (pv 1) T.cl mB DB hr ir (aj (dw (pv 2) rfl) (aj (dw (pv 2) rfl) (aj (di (by rfl) hS rS) aq)))) rfl)
   (au (jw (pv 2) (jf (pv 1) T.cl mL DL hr ir) rfl)
   (au (ig (n8 (pv 1) T.cl mW DW hr5 ir (aj gj aq)))
   (au (jw (pv 2) (jf (pv 1) T.cl mM DM hr4 ir) rfl)
   (au (ig (n8 (pv 1) T.cl mW DW hr5 ir (aj gj aq)))
   (au (ig (jf (pv 1) T.cl mE DE hr4 ir))
   (au (jw (pv 2) (jg xn (by rfl) T.len PySem.boot_len (aj (pv 0) aq)) rfl)
   (bh (dj (pv 2)))))))))))))),?_⟩
  unfold yx at q
  refine⟨_,rfl,λr dxr nx ndx nex=>⟨r,a,dxr,rfl,ak,rfl,?_⟩⟩
  have nar:a≠r:=bx ha nx
  have s1:az H (upd (upd (upd (upd H dxr (.own r)) r (.ins C dxr [])) r (.ins C dxr [("codes",.ref a)])) r (.ins C dxr (rf a 0))):=ji (ji (ji (dz (az.refl H) ndx) nx) nx) nx
  refine⟨_,rfl,r,a,0,b,rfl,⟨dxr,ak⟩,nar,SqL.of (s1 _ _ ha),?_⟩
  cases e1:aak (cur b 0)with
  | error q0=>rw[e1]at q;exact jx q λH9 g=>ou s1 nx g
  | ok v1 =>
  obtain⟨⟨n,wi,hi⟩,c1⟩:=v1
  rw[e1,Hm.jt]at q
  rintro H2 sh dxs nm g0 st0 m0 nsh nshr hsh hnm ⟨dx2,hr2'⟩ ec1 k2
  have bnd:wi<=13/\hi<=13:=Hm.au5 e1
  have ec1:c1=cur b c1.at_:=ec1
  have q:Res (Tafl.lit (Tafl.ascii "ground\n") c1 >>= _) _ _:=q
  rw[ec1]at q
  have s2:=ou s1 nx k2
  have nshH:H sh=none:=s1.free nsh
  have l2:∀{Hn:Hp},az H Hn->SqL K Hn a (bz b):=λsn=>SqL.of (sn _ _ ha)
  refine⟨_,rfl,r,dx2,_,rfl,hr2',rfl,r,a,_,_,b,Tafl.ascii "ground\n",rfl,⟨dx2,hr2'⟩,nar,l2 s2,by decide +kernel,by decide +kernel,?_⟩
  cases e3:Tafl.lit (Tafl.ascii "ground\n") (cur b c1.at_)with
  | error q0=>rw[e3]at q;exact jx q λH9 g=>ou s2 nx g
  | ok c3 =>
  rw[e3,Hm.jt]at q
  rintro H3 ⟨dx3,hr3⟩ ec3 k3
  have s3:=ou s2 nx k3
  have hsh3:=k3 _ _ hsh nshr
  have hnm3:=pq hnm k3 hr2'
  rw[ec3]at q
  refine⟨_,rfl,r,dx3,_,rfl,hr3,rfl,_,rfl,sh,CS,dxs,_,_,rfl,hsh3,TS.cl,TS.nWide,rfl,_,rfl,sh,CS,dxs,_,_,rfl,hsh3,TS.cl,TS.nHigh,rfl,?_⟩
  refine⟨r,a,c3.at_,wi,hi,b,Hm.GS,zG,rfl,⟨dx3,hr3⟩,nar,l2 s3,by omega,by omega,eG,by decide,by decide,by decide,?_⟩
  cases e4:iz Hm.GS wi hi (cur b c3.at_)with
  | error q0 =>
   have q:Res (iz Hm.GS wi hi (cur b c3.at_) >>= _) _ _:=q
   rw[e4]at q
   exact jx q λH9 g=>ou s3 nx g
  | ok v4 =>
  obtain⟨csg,c4⟩:=v4
  have q:Res (iz Hm.GS wi hi (cur b c3.at_) >>= _) _ _:=q
  rw[e4,Hm.jt]at q
  rintro H4 G _ hG4 ⟨dx4,hr4'⟩ ec4 k4
  have ec4:c4=cur b c4.at_:=ec4
  have q:Res (Tafl.lit (Tafl.ascii "start\n") c4 >>= _) _ _:=q
  rw[ec4]at q
  have s4:=ou s3 nx k4
  have hsh4:=k4 _ _ hsh3 nshr
  have hnm4:=pq hnm3 k4 hr3
  refine⟨_,rfl,sh,CS,dxs,_,rfl,hsh4,TS.cl,TS.nGround,by show 8<1000;decide,?_⟩
  have s5:=ji (o:=.ins CS dxs (ik "ground" (.ref G) (shf (.ref nm) (.int (wi:Int)) (.int (hi:Int)) (.ref g0) (.ref st0) (.ref m0) (.int 0) (.int 0)))) s4 nshH
  have kk5:But sh H4 (upd H4 sh (.ins CS dxs (ik "ground" (.ref G) (shf (.ref nm) (.int (wi:Int)) (.int (hi:Int)) (.ref g0) (.ref st0) (.ref m0) (.int 0) (.int 0))))):=But.refl.at
  have hG5:fu ug _ G csg:=fu.but (enc:=ug) hG4 kk5 hsh4
  have hnm5:=pq hnm4 kk5 hsh4
  have hr5':=kk5 _ _ hr4' (Ne.symm nshr)
  generalize hH5:upd H4 sh (.ins CS dxs (ik "ground" (.ref G) (shf (.ref nm) (.int (wi:Int)) (.int (hi:Int)) (.ref g0) (.ref st0) (.ref m0) (.int 0) (.int 0))))=H5 at *
  have hsh5:H5 sh=some (.ins CS dxs (shf (.ref nm) (.int (wi:Int)) (.int (hi:Int)) (.ref G) (.ref st0) (.ref m0) (.int 0) (.int 0))):=by rw[<-hH5,ak];rfl
  refine⟨_,rfl,r,dx4,_,rfl,hr5',rfl,r,a,_,_,b,Tafl.ascii "start\n",rfl,⟨dx4,hr5'⟩,nar,l2 s5,by decide +kernel,by decide +kernel,?_⟩
  cases e6:Tafl.lit (Tafl.ascii "start\n") (cur b c4.at_)with
  | error q0=>rw[e6]at q;exact jx q λH9 g=>ou s5 nx g
  | ok c6 =>
  rw[e6,Hm.jt]at q
  rintro H6 ⟨dx6,hr6⟩ ec6 k6
  have s6:=ou s5 nx k6
  have hsh6:=k6 _ _ hsh5 nshr
  have hnm6:=pq hnm5 k6 hr5'
  have hG6:=hG5.but k6 hr5'
  rw[ec6]at q
  refine⟨_,rfl,r,dx6,_,rfl,hr6,rfl,_,rfl,sh,CS,dxs,_,_,rfl,hsh6,TS.cl,TS.nWide,rfl,_,rfl,sh,CS,dxs,_,_,rfl,hsh6,TS.cl,TS.nHigh,rfl,?_⟩
  refine⟨r,a,c6.at_,wi,hi,b,Hm.SS,zS,rfl,⟨dx6,hr6⟩,nar,l2 s6,by omega,by omega,eS,by decide,by decide,by decide,?_⟩
  cases e7:iz Hm.SS wi hi (cur b c6.at_)with
  | error q0 =>
   have q:Res (iz Hm.SS wi hi (cur b c6.at_) >>= _) _ _:=q
   rw[e7]at q
   exact jx q λH9 g=>ou s6 nx g
  | ok v7 =>
  obtain⟨css,c7⟩:=v7
  have q:Res (iz Hm.SS wi hi (cur b c6.at_) >>= _) _ _:=q
  rw[e7,Hm.jt]at q
  rintro H7 S7 _ hS7 ⟨dx7,hr7⟩ ec7 k7
  have ec7:c7=cur b c7.at_:=ec7
  have q:Res (v8 Hm.LINES c7 >>= _) _ _:=q
  rw[ec7]at q
  have s7:=ou s6 nx k7
  have hsh7:=k7 _ _ hsh6 nshr
  have hnm7:=pq hnm6 k7 hr6
  have hG7:=hG6.but k7 hr6
  refine⟨_,rfl,sh,CS,dxs,_,rfl,hsh7,TS.cl,TS.nStart,by show 8<1000;decide,?_⟩
  have s8:=ji (o:=.ins CS dxs (ik "start" (.ref S7) (shf (.ref nm) (.int (wi:Int)) (.int (hi:Int)) (.ref G) (.ref st0) (.ref m0) (.int 0) (.int 0)))) s7 nshH
  have kk8:But sh H7 (upd H7 sh (.ins CS dxs (ik "start" (.ref S7) (shf (.ref nm) (.int (wi:Int)) (.int (hi:Int)) (.ref G) (.ref st0) (.ref m0) (.int 0) (.int 0))))):=But.refl.at
  have hS8:fu ug _ S7 css:=fu.but (enc:=ug) hS7 kk8 hsh7
  have hG8:=hG7.but kk8 hsh7
  have hnm8:=pq hnm7 kk8 hsh7
  have hr8:=kk8 _ _ hr7 (Ne.symm nshr)
  generalize hH8:upd H7 sh (.ins CS dxs (ik "start" (.ref S7) (shf (.ref nm) (.int (wi:Int)) (.int (hi:Int)) (.ref G) (.ref st0) (.ref m0) (.int 0) (.int 0))))=H8 at *
  have hsh8:H8 sh=some (.ins CS dxs (shf (.ref nm) (.int (wi:Int)) (.int (hi:Int)) (.ref G) (.ref S7) (.ref m0) (.int 0) (.int 0))):=by rw[<-hH8,ak];rfl
  refine⟨_,rfl,r,dx7,_,rfl,hr8,rfl,r,a,c7.at_,b,rfl,⟨dx7,hr8⟩,nar,l2 s8,?_⟩
  cases e9:v8 Hm.LINES (cur b c7.at_)with
  | error q0=>rw[e9]at q;exact jx q λH9 g=>ou s8 nx g
  | ok v9 =>
  obtain⟨ms,c9⟩:=v9
  rw[e9,Hm.jt]at q
  rintro H9 M _ hM9 ⟨dx9,hr9⟩ ec9 k9
  have ec9:c9=cur b c9.at_:=ec9
  have q:Res (Tafl.lit (Tafl.ascii "limit ") c9 >>= _) _ _:=q
  rw[ec9]at q
  have s9:=ou s8 nx k9
  have hsh9:=k9 _ _ hsh8 nshr
  have hnm9:=pq hnm8 k9 hr8
  have hG9:=hG8.but k9 hr8
  have hS9:=hS8.but k9 hr8
  refine⟨_,rfl,sh,CS,dxs,_,rfl,hsh9,TS.cl,TS.nMarks,by show 8<1000;decide,?_⟩
  have s10:=ji (o:=.ins CS dxs (ik "marks" (.ref M) (shf (.ref nm) (.int (wi:Int)) (.int (hi:Int)) (.ref G) (.ref S7) (.ref m0) (.int 0) (.int 0)))) s9 nshH
  have kk10:But sh H9 (upd H9 sh (.ins CS dxs (ik "marks" (.ref M) (shf (.ref nm) (.int (wi:Int)) (.int (hi:Int)) (.ref G) (.ref S7) (.ref m0) (.int 0) (.int 0))))):=But.refl.at
  have hM10:fu markV _ M ms:=fu.but (enc:=markV) hM9 kk10 hsh9
  have hS10:=hS9.but kk10 hsh9
  have hG10:=hG9.but kk10 hsh9
  have hnm10:=pq hnm9 kk10 hsh9
  have hr10:=kk10 _ _ hr9 (Ne.symm nshr)
  generalize hH10:upd H9 sh (.ins CS dxs (ik "marks" (.ref M) (shf (.ref nm) (.int (wi:Int)) (.int (hi:Int)) (.ref G) (.ref S7) (.ref m0) (.int 0) (.int 0))))=H10 at *
  have hsh10:H10 sh=some (.ins CS dxs (shf (.ref nm) (.int (wi:Int)) (.int (hi:Int)) (.ref G) (.ref S7) (.ref M) (.int 0) (.int 0))):=by rw[<-hH10,ak];rfl
  refine⟨_,rfl,r,dx9,_,rfl,hr10,rfl,r,a,_,_,b,Tafl.ascii "limit ",rfl,⟨dx9,hr10⟩,nar,l2 s10,by decide +kernel,by decide +kernel,?_⟩
  cases e11:Tafl.lit (Tafl.ascii "limit ") (cur b c9.at_)with
  | error q0=>rw[e11]at q;exact jx q λH9 g=>ou s10 nx g
  | ok c11 =>
  rw[e11,Hm.jt]at q
  rintro H11 ⟨dx11,hr11⟩ ec11 k11
  have s11:=ou s10 nx k11
  have hsh11:=k11 _ _ hsh10 nshr
  have hnm11:=pq hnm10 k11 hr10
  have hG11:=hG10.but k11 hr10
  have hS11:=hS10.but k11 hr10
  have hM11:=hM10.but k11 hr10
  rw[ec11]at q
  refine⟨_,rfl,r,dx11,_,rfl,hr11,rfl,r,a,c11.at_,b,rfl,⟨dx11,hr11⟩,nar,l2 s11,?_⟩
  cases e12:Tafl.number 1 60000 (cur b c11.at_)with
  | error q0=>rw[e12]at q;exact jx q λH9 g=>ou s11 nx g
  | ok v12 =>
  obtain⟨lim,c12⟩:=v12
  rw[e12,Hm.jt]at q
  rintro H12 ⟨dx12,hr12⟩ ec12 k12
  have ec12:c12=cur b c12.at_:=ec12
  have q:Res (Tafl.lit [10] c12 >>= _) _ _:=q
  rw[ec12]at q
  have s12:=ou s11 nx k12
  have hsh12:=k12 _ _ hsh11 nshr
  have hnm12:=pq hnm11 k12 hr11
  have hG12:=hG11.but k12 hr11
  have hS12:=hS11.but k12 hr11
  have hM12:=hM11.but k12 hr11
  refine⟨_,rfl,sh,CS,dxs,_,rfl,hsh12,TS.cl,TS.nLimit,by show 8<1000;decide,?_⟩
  have s13:=ji (o:=.ins CS dxs (ik "limit" (.int (lim:Int)) (shf (.ref nm) (.int (wi:Int)) (.int (hi:Int)) (.ref G) (.ref S7) (.ref M) (.int 0) (.int 0)))) s12 nshH
  have kk13:But sh H12 (upd H12 sh (.ins CS dxs (ik "limit" (.int (lim:Int)) (shf (.ref nm) (.int (wi:Int)) (.int (hi:Int)) (.ref G) (.ref S7) (.ref M) (.int 0) (.int 0))))):=But.refl.at
  have hM13:=hM12.but kk13 hsh12
  have hS13:=hS12.but kk13 hsh12
  have hG13:=hG12.but kk13 hsh12
  have hnm13:=pq hnm12 kk13 hsh12
  have hr13:=kk13 _ _ hr12 (Ne.symm nshr)
  generalize hH13:upd H12 sh (.ins CS dxs (ik "limit" (.int (lim:Int)) (shf (.ref nm) (.int (wi:Int)) (.int (hi:Int)) (.ref G) (.ref S7) (.ref M) (.int 0) (.int 0))))=H13 at *
  have hsh13:H13 sh=some (.ins CS dxs (shf (.ref nm) (.int (wi:Int)) (.int (hi:Int)) (.ref G) (.ref S7) (.ref M) (.int (lim:Int)) (.int 0))):=by rw[<-hH13,ak];rfl
  refine⟨_,rfl,r,dx12,_,rfl,hr13,rfl,r,a,_,_,b,[10],rfl,⟨dx12,hr13⟩,nar,l2 s13,rfl,by decide,?_⟩
  cases e14:Tafl.lit [10] (cur b c12.at_)with
  | error q0=>rw[e14]at q;exact jx q λH9 g=>ou s13 nx g
  | ok c14 =>
  rw[e14,Hm.jt]at q
  rintro H14 ⟨dx14,hr14⟩ ec14 k14
  have s14:=ou s13 nx k14
  have hsh14:=k14 _ _ hsh13 nshr
  have hnm14:=pq hnm13 k14 hr13
  have hG14:=hG13.but k14 hr13
  have hS14:=hS13.but k14 hr13
  have hM14:=hM13.but k14 hr13
  have erest:c14.rest=b.drop c14.at_:=congrArg Tafl.Cur.rest ec14
  refine⟨_,rfl,r,dx14,_,rfl,hr14,rfl,r,a,c14.at_,b,rfl,⟨dx14,hr14⟩,l2 s14,?_⟩
  by_cases hend:c14.at_<b.length
  ·rw[if_pos hend]
   have hne:c14.rest≠[]:=by
    rw[erest]
    intro z
    rw[List.drop_eq_nil_iff]at z
    omega
   rw[if_neg hne]at q
   exact jx q λH9 g=>s14.trans g
  ·rw[if_neg hend]
   have hne:c14.rest=[]:=by
    rw[erest,List.drop_eq_nil_iff]
    omega
   rw[if_pos hne]at q
   refine⟨_,rfl,a,_,rfl,.inl (l2 s14),_,rfl,sh,CS,dxs,_,rfl,hsh14,TS.cl,TS.nLength,by show 8<1000;decide,_,rfl,?_⟩
   rw[uf]
   have kk:∀o,But sh H14 (upd H14 sh o):=λo=>But.refl.at
   refine q _ sh nshH ⟨dxs,nm,G,S7,M,?_,pq hnm14 (kk _) hsh14,hG14.but (kk _) hsh14,hS14.but (kk _) hsh14,hM14.but (kk _) hsh14⟩ (ji s14 nshH)
   rw[ak]
   rfl
end
open Hm (Sq Sh jj placesOf)
theorem adv{X:Cx}{K:PySem.W.Frag}{es:List Expr}{k n:Nat}{t:TGs}{pos:Pos}(hc:X.calm=true)(h:PGs X es t)(hK:X.K=K:=by rfl)
  (hn:(assignEach es X.env).length=n:=by rfl) (hst:(assignEach es X.env).findIdx? (·.1)=none:=by rfl):PG X (.Tuple es k pos) (amh K n t):=hK▸abi hc h hn hst
theorem ahl{α:Type}{enc:α->List V}{K:PySem.W.Frag}{a:Addr}{cs:List α}{g:TG}{tt:TT}{te:TE}{vs:List Nat}{σ:L2.St}{H1:Hp}{D:Addr}{Qd:Hp->Prop}(pr:α->Bool)(out:α->V)(hT:fu enc H1 a cs)(hD:H1 D=none)(few:cs.length<=1000000)
  (step:∀(c:α) (p:Addr) (Hc:Hp) (acc:List V) (R:Hp->Prop),c∈cs->Hc p=some (.tup (enc c))->Hc D=some (.lst acc)->acc.length<sizeLine->(pr c=true->R (upd Hc D (.lst (acc++[out c]))))->(pr c=false->R Hc) ->
   g (.ref p) (wipe σ vs) Hc λσ2 H2=>wipe σ2 vs=wipe σ vs/\tt σ2 H2 λb H3=>if b=true then te σ2 H3 λy H4=>∃acc,H4 D=some (.lst acc)/\acc.length<sizeLine/\R (upd H4 D (.lst (acc++[y])))else R H3)
  (fin:Qd (upd H1 D (.lst ((cs.filter pr).map out)))) :
  ∃W:Nat->Nat->Hp->Prop,(∃m,W 0 m (upd H1 D (.lst [])))/\∀i m H,W i m H ->
   ((Itl K a).stop i H/\Qd H)\/((Itl K a).go i H/\∃Nx:Hp->Prop,(∀H',Nx H'->∃m',m'<m/\W (i+1) m' H')/\∀x H',(Itl K a).yld i H x H'->g x (wipe σ vs) H' λσ2 H2=>wipe σ2 vs=wipe σ vs/\tt σ2 H2 λb H3 =>
    if b=true then te σ2 H3 λy H4=>∃acc,H4 D=some (.lst acc)/\acc.length<sizeLine/\Nx (upd H4 D (.lst (acc++[y])))else Nx H3):=by
 obtain⟨ps,h1,h2⟩:=hT
 have naD:a≠D:=bx h1 hD
 refine aez (K:=K) (a:=a) (xs:=ps.map V.ref) (λi Hc=>Hc=upd H1 D (.lst (((cs.take i).filter pr).map out))) rfl (λi Hc _ e=>SqL.of (by rw[e,ao naD];exact h1)) ?_ ?_
 ·rintro i x Hc hx rfl
  rw[List.getElem?_map]at hx
  obtain⟨p,hp,rfl⟩:=Option.map_eq_some_iff.mp hx
  obtain⟨c,hc,hpc⟩:=ph h2 hp
  have tk:cs.take (i+1)=cs.take i++[c]:=by rw[List.take_succ,hc];rfl
  have hl:(((cs.take i).filter pr).map out).length<sizeLine:=by
   rw[List.length_map,sizeLine_eq]
   have h1:=List.length_filter_le pr (cs.take i)
   have h2:(cs.take i).length<=cs.length:=by rw[List.length_take];exact Nat.min_le_right _ _
   omega
  refine step c p _ _ (λHc=>Hc=upd H1 D (.lst (((cs.take (i+1)).filter pr).map out))) (List.mem_of_getElem? hc) (by rw[ao (bx hpc hD)];exact hpc) ak hl (λhpr=>?_) λhpr=>?_
  ·rw[yz,tk,List.filter_append,List.filter_cons,if_pos hpr,List.filter_nil,List.map_append]
   rfl
  ·rw[tk,List.filter_append,List.filter_cons,if_neg (by rw[hpr];decide),List.filter_nil,List.append_nil]
 ·rintro Hc rfl
  have e:=je h2
  rw[List.length_map,e,List.take_length]
  exact fin
def sgn(c:UInt8):Str:=⟨#[c.toNat]⟩
theorem yw(a b:UInt8):decide (V.str (sgn a)=V.str (sgn b))=(a==b):=by
 by_cases h:a=b
 ·subst h
  simp
 ·have:¬V.str (sgn a)=V.str (sgn b):=λz=>h (by
   injection z with z
   unfold sgn at z
   injection z with z
   have z2:a.toNat=b.toNat:=by simpa using z
   exact UInt8.toNat_inj.mp z2)
  rw[decide_eq_false this]
  exact(beq_eq_false_iff_ne.mpr h).symm
def du(ns:List Nat):List V:=ns.map λ(n:Nat)=>V.int (n:Int)
def af5(K:PySem.W.Frag):Sp:=λvs H Q _=>∃(a:Addr) (c:UInt8) (cs:List Sq),vs=[.ref a,.str (sgn c)]/\fu ug H a cs/\cs.length<=1000000/\∀L,H L=none->Q (.ref L) (upd H L (.lst (du (placesOf cs c))))
def akd(K:PySem.W.Frag):Sp:=λvs H Q _=>∃(a:Addr) (c:UInt8) (cs:List Sq),vs=[.ref a,.str (sgn c)]/\fu ug H a cs/\cs.length<=1000000 /\
 ∀H' L (ns:List Int),ns.Perm ((jj cs c).map λq=>(q.2.1:Int))->ns.Pairwise (·<=·)->H L=none->H' L=some (.lst (ns.map V.int))->az H H'->Q (.ref L) H'
section
variable{P:Program}{w:World}{K:PySem.W.Frag}{mg:Str->Option Value}{base:Heap}
theorem ayu{f:Addr}(F:Fn K "places_of" "places_of" afy ["board", "sign"] f):Def P w K mg base CX0 1 f ["board", "sign"] (af5 K):=by
 refine F.ok0 apx (λvs H Q E h=>?_) (λcdv A outer s H vs Q E hr h=>?_)
 ·obtain⟨a,c,cs,rfl,_⟩:=h
  rfl
 ·obtain⟨a,c,cs,rfl,hT,few,q⟩:=h
  have nd:=apx.nd
  refine⟨_,bh (dj (zr (own:=[("place",2),("cell",3),("found",4)]) rfl nd (aas (pv 0)) (vp (N:=["board", "sign", "place", "cell", "found"]) (sc:=bj afy) (by decide +kernel))
   (λ_ _ _ _ _=>adv (K:=K) (n:=3) rfl (jk (gm (i:=2) nd rfl (Or.inl rfl)) (jk (gm (i:=3) nd rfl (Or.inl rfl)) (jk (gm (i:=4) nd rfl (Or.inl rfl)) xu))))
   (λ_ _ _ _ _=>afk (iy uq (pv 4) (pv 1) (gf _))) (λ_ _ _ _ _=>pv 2))),?_⟩
  have hT':=hT
  obtain⟨ps,h1,_⟩:=hT'
  refine⟨_,rfl,a,rfl,⟨_,SqL.of h1⟩,λD hD=>?_⟩
  refine ahl (λq=>q.2.2==c) (λq=>V.int (q.1:Int)) hT hD few (λx p Hc acc R _ hp hacc hl yes no=>?_) ?_
  ·refine⟨p,_,rfl,SqT.of hp,rfl,_,_,rfl,_,_,rfl,_,_,rfl,rfl,rfl,_,rfl,_,rfl,rfl,_,rfl,?_⟩
   refine nj (λhc=>?_) λhc=>?_
   ·refine⟨_,rfl,acc,hacc,hl,yes ?_⟩
    rw[<-yw]
    exact hc
   ·refine no ?_
    rw[<-yw]
    exact Bool.eq_false_iff.mpr hc
  ·have e:((cs.filter λq=>q.2.2==c).map λq=>V.int (q.1:Int))=du (placesOf cs c):=by
    unfold du placesOf jj
    rw[List.map_map]
    rfl
   rw[e]
   exact q D hD
theorem ax8{f:Addr}(F:Fn K "cells_of" "cells_of" afu ["board", "sign"] f)(hso:mg "sorted" = none):Def P w K mg base CX0 1 f ["board", "sign"] (akd K):=by
 refine F.ok0 apk (λvs H Q E h=>?_) (λcdv A outer s H vs Q E hr h=>?_)
 ·obtain⟨a,c,cs,rfl,_⟩:=h
  rfl
 ·obtain⟨a,c,cs,rfl,hT,few,q⟩:=h
  have nd:=apk.nd
  refine⟨_,bh (dj (jg atx (by rfl) hso PyProof.Rows.boot_sorted (aj (zr (own:=[("place",2),("cell",3),("found",4)]) rfl nd (aas (pv 0)) (vp (N:=["board", "sign", "place", "cell", "found"]) (sc:=bj afu) (by decide +kernel))
   (λ_ _ _ _ _=>adv (K:=K) (n:=3) rfl (jk (gm (i:=2) nd rfl (Or.inl rfl)) (jk (gm (i:=3) nd rfl (Or.inl rfl)) (jk (gm (i:=4) nd rfl (Or.inl rfl)) xu))))
   (λ_ _ _ _ _=>afk (iy uq (pv 4) (pv 1) (gf _))) (λ_ _ _ _ _=>pv 3)) aq))),?_⟩
  have hT':=hT
  obtain⟨ps,h1,_⟩:=hT'
  refine⟨_,rfl,a,rfl,⟨_,SqL.of h1⟩,λD hD=>?_⟩
  refine ahl (λq=>q.2.2==c) (λq=>V.int (q.2.1:Int)) hT hD few (λx p Hc acc R _ hp hacc hl yes no=>?_) ?_
  ·refine⟨p,_,rfl,SqT.of hp,rfl,_,_,rfl,_,_,rfl,_,_,rfl,rfl,rfl,_,rfl,_,rfl,rfl,_,rfl,?_⟩
   refine nj (λhc=>?_) λhc=>?_
   ·refine⟨_,rfl,acc,hacc,hl,yes ?_⟩
    rw[<-yw]
    exact hc
   ·refine no ?_
    rw[<-yw]
    exact Bool.eq_false_iff.mpr hc
  ·have e:((cs.filter λq=>q.2.2==c).map λq=>V.int (q.2.1:Int))=((jj cs c).map λq=>(q.2.1:Int)).map V.int:=by
    rw[List.map_map]
    rfl
   rw[e]
   refine⟨D,_,rfl,SqL.of ak,λns p hp hs hpn=>?_⟩
   have s1:az H (upd H D (.lst (((jj cs c).map λq=>(q.2.1:Int)).map V.int))):=dz (az.refl H) hD
   exact q _ p ns hp hs (s1.free hpn) ak (dz s1 hpn)
end
open Hm (Sq Sh jj placesOf aam yc zp u6 vf)
theorem az4{X:Cx}{K:PySem.W.Frag}{a:Expr}{ta:TE}{pos:Pos}(ha:PE X a ta)(hK:X.K=K:=by rfl):PE X (.UnaryOp .Not a pos) (λσ H Q=>ta σ H λx H'=>∃k,aby K x H' k/\Q (.bl (!k)) H'):=by
 subst hK
 intro pins s σ H Q I h
 refine UnaryOp_ (thn (ha pins s σ H _ I h) λv s1 ⟨x,H1,I1,r1,k,tr,q⟩=>?_)
 exact not_of (thn (arv pins s1 σ H1 x v (λc H=>Q (.bl (!c)) H) I1 r1 ⟨k,tr,q⟩) λc s2 ⟨H2,I2,q2⟩=>⟨.bl (!c),H2,I2,rfl,q2⟩)
theorem ag5{J:It}{g:TG}{tb:TS}{D:Ends}{σ:L2.St}{H:Hp}(n:Nat)(Pv:Nat->L2.St->Hp->Prop)(h0:Pv 0 σ H)
  (hs:∀i σ H,i<n->Pv i σ H->J.go i H/\∀x H',J.yld i H x H'->g x σ H' λσ2 H2=>tb {D with nx:=Pv (i+1),ct:=Pv (i+1),bk:=D.nx} σ2 H2) (hd:∀σ H,Pv n σ H->J.stop n H/\D.nx σ H) :
  ∃W:Nat->Nat->L2.St->Hp->Prop,(∃m,W 0 m σ H)/\∀i m σ H,W i m σ H ->
   (J.stop i H/\D.nx σ H)\/(J.go i H/\∃N:L2.St->Hp->Prop,(∀σ' H',N σ' H'->∃m',m'<m/\W (i+1) m' σ' H')/\∀x H',J.yld i H x H'->g x σ H' λσ2 H2=>tb {D with nx:=N,ct:=N,bk:=D.nx} σ2 H2):=by
 refine⟨λi m σ H=>m=n-i/\i<=n/\Pv i σ H,⟨n,by simp,Nat.zero_le _,h0⟩,?_⟩
 rintro i m σ H ⟨rfl,hi,p⟩
 by_cases hlt:i<n
 ·obtain⟨h1,h2⟩:=hs i σ H hlt p
  exact .inr ⟨h1,Pv (i+1),λσ' H' p'=>⟨n-(i+1),by omega,rfl,hlt,p'⟩,h2⟩
 ·have e:i=n:=by omega
  subst e
  exact .inl (hd σ H p)
theorem aey{J:It}{g:TG}{tt:TT}{te:TE}{vs:List Nat}{σ:L2.St}{H1:Hp}{D:Addr}{Qd:Hp->Prop}(n:Nat)(Pv:Nat->Hp->Prop)(h0:Pv 0 (upd H1 D (.lst [])))
  (hs:∀i H,i<n->Pv i H->J.go i H/\∀x H',J.yld i H x H'->g x (wipe σ vs) H' λσ2 H2=>wipe σ2 vs=wipe σ vs/\tt σ2 H2 λb H3 =>
   if b=true then te σ2 H3 λy H4=>∃acc,H4 D=some (.lst acc)/\acc.length<sizeLine/\Pv (i+1) (upd H4 D (.lst (acc++[y])))else Pv (i+1) H3) (hd:∀H,Pv n H->J.stop n H/\Qd H) :
  ∃W:Nat->Nat->Hp->Prop,(∃m,W 0 m (upd H1 D (.lst [])))/\∀i m H,W i m H ->
   (J.stop i H/\Qd H)\/(J.go i H/\∃Nx:Hp->Prop,(∀H',Nx H'->∃m',m'<m/\W (i+1) m' H')/\∀x H',J.yld i H x H'->g x (wipe σ vs) H' λσ2 H2=>wipe σ2 vs=wipe σ vs/\tt σ2 H2 λb H3 =>
    if b=true then te σ2 H3 λy H4=>∃acc,H4 D=some (.lst acc)/\acc.length<sizeLine/\Nx (upd H4 D (.lst (acc++[y])))else Nx H3):=by
 refine⟨λi m H=>m=n-i/\i<=n/\Pv i H,⟨n,by simp,Nat.zero_le _,h0⟩,?_⟩
 rintro i m H ⟨rfl,hi,p⟩
 by_cases hlt:i<n
 ·obtain⟨h1,h2⟩:=hs i H hlt p
  exact .inr ⟨h1,Pv (i+1),λH' p'=>⟨n-(i+1),by omega,rfl,hlt,p'⟩,h2⟩
 ·have e:i=n:=by omega
  subst e
  exact .inl (hd H p)
theorem ap8:(Str.ofString "." : Str)=sgn 46:=by decide +kernel
theorem af2:(Str.ofString "S" : Str)=sgn 83:=by decide +kernel
theorem a2p:(Str.ofString "X" : Str)=sgn 88:=by decide +kernel
theorem abq:(Str.ofString "K" : Str)=sgn 75:=by decide +kernel
theorem ap9:(Str.ofString "h" : Str)=sgn 104:=by decide +kernel
theorem aty(xs:List V):m6 xs (some 1) none=xs.drop 1:=by
 unfold m6
 cases xs with
 | nil=>rfl
 | cons x xs =>
  have e1:HT.sIx (x::xs).length 0 (some 1)=1:=by
   have z:=HT.ad0 (x::xs).length 0 1
   rw[List.length_cons]at z ⊢
   exact z.trans (by omega)
  have e2:HT.sIx (x::xs).length (x::xs).length none=(x::xs).length:=HT.a1a ..
  rw[e1,e2]
  rw[List.take_of_length_le (by simp)]
def aq3(K:PySem.W.Frag):Sp:=λvs H Q _=>∃(a:Addr) (c:UInt8) (k:Nat) (cs:List Sq),vs=[.ref a,.str (sgn c),.int (k:Int)]/\fu ug H a cs/\cs.length<=1000000 /\
 ∀H' L,H L=none->fu markV H' L (aam cs c k)->az H H'->Q (.ref L) H'
def arb:Sp:=λvs H Q _=>∃(p k:UInt8),vs=[.str (sgn p),.str (sgn k)]/\Q (.bl (yc p k)) H
section
variable{P:Program}{w:World}{K:PySem.W.Frag}{mg:Str->Option Value}{base:Heap}
theorem ayr{f:Addr}(F:Fn K "more_than_one" "more_than_one" afx ["board", "sign", "kind"] f)(gP:GD P w K mg base CX0 1 "places_of" ["board", "sign"] (af5 K)):Def P w K mg base CX0 2 f ["board", "sign", "kind"] (aq3 K):=by
 obtain⟨fP,gP,DP⟩:=gP
 refine F.ok0 apv (λvs H Q E h=>?_) (λcdv A outer s H vs Q E hr h=>?_)
 ·obtain⟨a,c,k,cs,rfl,_⟩:=h
  rfl
 ·obtain⟨a,c,k,cs,rfl,hT,few,q⟩:=h
  have nd:=apv.nd
  refine⟨_,bh (dj (zr (own:=[("place",3)]) rfl nd (aas (adu ad2 (d8 DP hr rfl gP bu (aj (pv 0) (aj (pv 1) aq))) (abj dm) aie)) (vp (N:=["board", "sign", "kind", "place"]) (sc:=bj afx) (by decide +kernel))
   (λ_ _ _ _ _=>gm (i:=3) nd rfl (Or.inl rfl)) (λ_ _ _ _ _=>aax) (λ_ _ _ _ _=>ur (aj (pv 3) (aj (pv 2) aq))))),?_⟩
  refine⟨_,rfl,_,rfl,a,c,cs,rfl,hT,few,λL hL=>⟨_,rfl,L,_,rfl,SqL.of ak,λM hM=>⟨M,rfl,⟨_,SqL.of ak⟩,λD hD=>?_⟩⟩⟩
  rw[aty]at hD ⊢
  have s1:az H (upd H L (.lst (du (placesOf cs c)))):=dz (az.refl H) hL
  have s2:=dz (o:=.lst ((du (placesOf cs c)).drop 1)) s1 hM
  have nMD:M≠D:=bx ak hD
  have ed:(du (placesOf cs c)).drop 1=du ((placesOf cs c).drop 1):=by unfold du;rw[List.map_drop]
  have hlen:((placesOf cs c).drop 1).length<=1000000:=by
   have h1:(placesOf cs c).length<=cs.length:=by unfold placesOf jj;rw[List.length_map];exact List.length_filter_le _ _
   rw[List.length_drop]
   omega
  refine aez (K:=K) (a:=M) (xs:=(du (placesOf cs c)).drop 1) (λi Hc=>Hc M=some (.lst ((du (placesOf cs c)).drop 1))/\fu markV Hc D ((((placesOf cs c).drop 1).take i).map λp=>(p,k))/\az H Hc)
   ⟨by rw[ao nMD,ak],.nil ak,dz s2 hD⟩ (λi Hc _ e=>SqL.of e.1) ?_ ?_
  ·rintro i x Hc hx ⟨hM',hT',s'⟩
   rw[ed]at hx
   unfold du at hx
   rw[List.getElem?_map]at hx
   obtain⟨p,hp,rfl⟩:=Option.map_eq_some_iff.mp hx
   obtain⟨ps,h1,h2⟩:=hT'
   have hl2:=je h2
   rw[List.length_map,List.length_take]at hl2
   refine⟨rfl,_,rfl,_,rfl,by show 2<=sizeLine;decide,λt ht=>⟨ps.map V.ref,by rw[ao (bx h1 ht)];exact h1,by rw[List.length_map,sizeLine_eq];omega,?_,?_,?_⟩⟩
   ·rw[ao nMD,ao (bx hM' ht)]
    exact hM'
   ·have tk:((placesOf cs c).drop 1).take (i+1)=((placesOf cs c).drop 1).take i++[p]:=by rw[List.take_succ,hp];rfl
    rw[tk,List.map_append]
    exact fu.snoc (enc:=markV) (c:=(p,k)) h1 h2 ht
   ·exact ji (dz s' ht) (s2.free hD)
  ·rintro Hc ⟨_,hT',s'⟩
   rw[ed]at hT'
   have e:(du ((placesOf cs c).drop 1)).length=((placesOf cs c).drop 1).length:=List.length_map ..
   rw[e,List.take_length]at hT'
   exact q Hc D (s2.free hD) hT' s'
theorem ay0{f:Addr}(F:Fn K "stands_wrong" "stands_wrong" aj4 ["piece", "kind"] f):Def P w K mg base CX0 1 f ["piece", "kind"] arb:=by
 refine F.ok0 a2b (λvs H Q E h=>?_) (λcdv A outer s H vs Q E hr h=>?_)
 ·obtain⟨p,k,rfl,_⟩:=h
  rfl
 ·obtain⟨p,k,rfl,q⟩:=h
  refine⟨_,au (jl (iy uq (pv 0) gj (gf _)) (bh (dj ach)) jq)
   (au (jl (iy uq (pv 1) gj (gf _)) (bh (dj (tu aaq (pv 0) gj (gf _)))) jq)
   (bh (dj (tu aaq (pv 1) gj (gf _))))),?_⟩
  unfold yc at q
  refine⟨_,rfl,rfl,_,rfl,?_⟩
  rw[ap8,yw]
  refine nj (λhc=>?_) λhc=>?_
  ·rw[if_pos (eq_of_beq hc)]at q
   exact q
  ·rw[if_neg (λz=>hc (beq_iff_eq.mpr z))]at q
   refine⟨_,rfl,rfl,_,rfl,?_⟩
   rw[af2,yw]
   refine nj (λhc=>?_) λhc=>?_
   ·rw[if_pos (eq_of_beq hc)]at q
    refine⟨_,rfl,rfl,?_⟩
    rw[abq,yw]
    exact q
   ·rw[if_neg (λz=>hc (beq_iff_eq.mpr z))]at q
    refine⟨_,rfl,rfl,?_⟩
    rw[yw]
    exact q
end
open Hm (Sq Sh jj placesOf aam yc zp u6 vf jy uw abp sr uz)
structure ShB(s:Sh):Prop where
 g:s.ground.length<=1000
 t:s.start.length<=1000
 m:s.marks.length=9
 eq:s.ground.length=s.start.length
theorem dV{i j:Int}{p:Prop}[Decidable p](h:i=j↔p):decide (V.int i=V.int j)=decide p:=decide_eq_decide.mpr ⟨λz=>h.mp (by injection z),λz=>congrArg V.int (h.mpr z)⟩
def acp(CS:Addr)(fl:Sh->Nat->List (Nat×Nat)):Sp:=λvs H Q _=>∃(sh:Addr) (s:Sh) (len:Nat),vs=[.ref sh]/\yg CS H sh s len/\ShB s /\
 ∀H' L,H L=none->fu markV H' L (fl s len)->az H H'->Q (.ref L) H'
def af3(CS:Addr)(fl:Sh->Bool):Sp:=λvs H Q _=>∃(sh:Addr) (s:Sh) (len:Nat),vs=[.ref sh]/\yg CS H sh s len/\ShB s/\∀H',az H H'->Q (.bl (fl s)) H'
def aqp(CS:Addr):Sp:=λvs H Q _=>∃(sh:Addr) (s:Sh) (len c:Nat),vs=[.ref sh,.int (c:Int)]/\yg CS H sh s len/\Q (.bl (zp s c)) H
section
variable{P:Program}{w:World}{K:PySem.W.Frag}{mg:Str->Option Value}{base:Heap}
theorem azh{f CS:Addr}(F:Fn K "wrong_pieces" "wrong_pieces" aj9 ["sheet"] f)(TS:ShT K CS)(hz:mg "zip" = none)(gW:GD P w K mg base CX0 1 "stands_wrong" ["piece", "kind"] arb):
  Def P w K mg base CX0 2 f ["sheet"] (acp CS λs _=>vf s):=by
 obtain⟨fW,gW,DW⟩:=gW
 refine F.ok0 ap5 (λvs H Q E h=>?_) (λcdv A outer s H vs Q E hr h=>?_)
 ·obtain⟨sh,s,len,rfl,_⟩:=h
  rfl
 ·obtain⟨sh,st,len,rfl,⟨dx,nm,g,st0,m,h1,h2,hG,hS,hM⟩,B,q⟩:=h
  have nd:=ap5.nd
  refine⟨_,au (cz (i:=1) nd rfl (Or.inl rfl) (ju aq))
   (au (t7 PassesOwn.never rfl (aoa (by rfl) hz (aj (dw (pv 0) rfl) (aj (dw (pv 0) rfl) aq))) (abi rfl (jk (gm (i:=2) nd rfl (Or.inl rfl)) (jk (gm (i:=3) nd rfl (Or.inl rfl)) xu)))
    (bh (jl (uc (d8 DW hr rfl gW bu (aj (gk o7 (pv 3) dm (λ_ _=>rfl)) (aj (gk o7 (pv 2) dm (λ_ _=>rfl)) aq))))
     (bh (ig (su PySem.F.plainAttrs_list PySem.F.slot_list_append PySem.F.type_list_append ace (pv 1) (aj (ur (aj (gk o7 (pv 3) dm (λ_ _=>rfl)) (aj dm aq))) aq)))) jq)))
   (bh (dj (pv 1)))),?_⟩
  refine⟨Nat.zero_le _,λL hL=>?_⟩
  have s1:az H (upd H L (.lst [])):=dz (az.refl H) hL
  obtain⟨pg,hg1,hg2⟩:=hG
  obtain⟨pt,ht1,ht2⟩:=hS
  have lg:=je hg2
  have lt:=je ht2
  refine⟨_,rfl,sh,CS,dx,_,_,rfl,s1 _ _ h1,TS.cl,TS.nGround,rfl,_,rfl,sh,CS,dx,_,_,rfl,s1 _ _ h1,TS.cl,TS.nStart,rfl,g,st0,_,_,rfl,SqL.of (s1 _ _ hg1),SqL.of (s1 _ _ ht1),?_⟩
  refine ag5 st.ground.length (λi σ H'=>∃v2 v3:Option V,σ=[some (.ref sh),some (.ref L),v2,v3]/\az H H'/\fu markV H' L ((((st.ground.zip st.start).take i).filter λq=>yc q.2.2.2 q.1.2.2).map λq=>(q.2.1,3)))
   ⟨none,none,rfl,s1,.nil ak⟩ ?_ ?_
  ·rintro i σ H' hi ⟨v2,v3,rfl,s',hT⟩
   have hgi:i<pg.length:=by omega
   have hti:i<pt.length:=by have:=B.eq;omega
   have eg:(pg.map V.ref)[i]? = some (.ref pg[i]):=by rw[List.getElem?_map,List.getElem?_eq_getElem hgi];rfl
   have et:(pt.map V.ref)[i]? = some (.ref pt[i]):=by rw[List.getElem?_map,List.getElem?_eq_getElem hti];rfl
   refine⟨⟨_,_,_,_,SqL.of (s' _ _ hg1),SqL.of (s' _ _ ht1),eg,et⟩,?_⟩
   rintro x H2 ⟨T,x1,x2,rfl,hTn,rfl,hx1,hx2⟩
   have e1:=hx1 _ (SqL.of (s' _ _ hg1))
   have e2:=hx2 _ (SqL.of (s' _ _ ht1))
   rw[eg]at e1
   rw[et]at e2
   cases e1
   cases e2
   obtain⟨cg,hcg,hpg⟩:=ph hg2 (List.getElem?_eq_getElem hgi)
   obtain⟨ct,hct,hpt⟩:=ph ht2 (List.getElem?_eq_getElem hti)
   have s2:=dz (o:=.tup [.ref pg[i],.ref pt[i]]) s' hTn
   have ez:(st.ground.zip st.start)[i]? = some (cg,ct):=by rw[List.getElem?_zip_eq_some];exact⟨hcg,hct⟩
   have tk:(st.ground.zip st.start).take (i+1)=(st.ground.zip st.start).take i++[(cg,ct)]:=by rw[List.take_succ,ez];rfl
   refine⟨T,_,rfl,SqT.of ak,rfl,_,_,rfl,_,_,rfl,rfl,?_⟩
   refine⟨_,rfl,pt[i],_,_,_,rfl,rfl,SqT.of (s2 _ _ hpt),gr (j:=2) rfl,_,rfl,pg[i],_,_,_,rfl,rfl,SqT.of (s2 _ _ hpg),gr (j:=2) rfl,ct.2.2,cg.2.2,rfl,_,rfl,?_⟩
   obtain⟨ps,hL1,hL2⟩:=hT.same (dz (o:=.tup [.ref pg[i],.ref pt[i]]) (az.refl H') hTn)
   have hlp:=je hL2
   have hle:((((st.ground.zip st.start).take i).filter λq=>yc q.2.2.2 q.1.2.2).map λq:Sq×Sq=>(q.2.1,3)).length<=1000:=by
    rw[List.length_map]
    have h3:=List.length_filter_le (λq:Sq×Sq=>yc q.2.2.2 q.1.2.2) ((st.ground.zip st.start).take i)
    rw[List.length_take]at h3
    have:=B.g
    omega
   refine nj (λhc=>?_) λhc=>?_
   ·refine⟨_,rfl,.inl ⟨rfl,_,SqL.of hL1⟩,_,rfl,pt[i],_,_,_,rfl,rfl,SqT.of (s2 _ _ hpt),gr (j:=0) rfl,by show 2<=sizeLine;decide,λt ht=>?_⟩
    have nLt:L≠t:=bx hL1 ht
    refine⟨L,_,_,rfl,rfl,by rw[ao nLt];exact hL1,by rw[List.length_map,sizeLine_eq];omega,_,_,rfl,ji (dz s2 ht) hL,?_⟩
    rw[tk,List.filter_append,List.filter_cons,if_pos hc,List.filter_nil,List.map_append]
    exact fu.snoc (enc:=markV) (c:=(ct.1,3)) hL1 hL2 ht
   ·refine⟨_,_,rfl,s2,?_⟩
    rw[tk,List.filter_append,List.filter_cons,if_neg hc,List.filter_nil,List.append_nil]
    exact⟨ps,hL1,hL2⟩
  ·rintro σ H' ⟨v2,v3,rfl,s',hT⟩
   refine⟨⟨_,_,SqL.of (s' _ _ hg1),SqL.of (s' _ _ ht1),.inl (by rw[List.length_map];omega)⟩,_,rfl,?_⟩
   rw[List.take_of_length_le (by rw[List.length_zip];omega)]at hT
   exact q H' L hL hT s'
theorem ays{f CS:Addr}(F:Fn K "on_edge" "on_edge" ajz ["sheet", "cell"] f)(TS:ShT K CS)(hR:fc mg "ROW" 13):Def P w K mg base CX0 1 f ["sheet", "cell"] (aqp CS):=by
 obtain⟨uR,hR,rR⟩:=hR
 refine F.ok0 apw (λvs H Q E h=>?_) (λcdv A outer s H vs Q E hr h=>?_)
 ·obtain⟨sh,s,len,c,rfl,_⟩:=h
  rfl
 ·obtain⟨sh,sq,len,c,rfl,⟨dx,nm,g,st0,m,h1,h2,hG,hS,hM⟩,q⟩:=h
  have nd:=apw.nd
  refine⟨_,au (cz (i:=2) nd rfl (Or.inl rfl) (gw abg (pv 1) (di (by rfl) hR rR)))
   (au (cz (i:=3) nd rfl (Or.inl rfl) (gw ah5 (pv 1) (di (by rfl) hR rR)))
   (bh (dj (adt (tu uq (pv 2) dm (gf _)) (adt (tu uq (pv 3) dm (gf _)) (adt (tu uq (pv 2) (gw aar (dw (pv 0) rfl) dm) (gf _)) (afc (tu uq (pv 3) (gw aar (dw (pv 0) rfl) dm) (gf _))))))))),?_⟩
  refine⟨_,rfl,_,_,rfl,rfl,by show(0:Int)<13;decide,_,rfl,_,_,rfl,rfl,⟨by decide,by decide⟩,_,rfl,rfl,_,rfl,?_⟩
  unfold zp at q
  rw[dV (p:=c % 13=0) (by omega)]
  cases e1:decide (c % 13=0)with
  | true=>rw[e1]at q;exact d9 q
  | false =>
  rw[e1]at q
  refine gh ⟨_,rfl,rfl,_,rfl,?_⟩
  rw[dV (p:=c / 13=0) (by omega)]
  cases e2:decide (c / 13=0)with
  | true=>rw[e2]at q;exact d9 q
  | false =>
  rw[e2]at q
  refine gh ⟨_,rfl,_,rfl,sh,CS,dx,_,_,rfl,h1,TS.cl,TS.nWide,rfl,_,_,rfl,rfl,rfl,_,rfl,?_⟩
  rw[dV (p:=c % 13+1=sq.wide) (by omega)]
  cases e3:decide (c % 13+1=sq.wide)with
  | true=>rw[e3]at q;exact d9 q
  | false =>
  rw[e3]at q
  refine gh ⟨_,rfl,_,rfl,sh,CS,dx,_,_,rfl,h1,TS.cl,TS.nHigh,rfl,_,_,rfl,rfl,rfl,?_⟩
  rw[dV (p:=c / 13+1=sq.high) (by omega)]
  exact q
end
theorem akl{K:PySem.W.Frag}{H:Hp}{L:Addr}{xs:List V}(h:H L=some (.lst xs)):aby K (.ref L) H (!xs.isEmpty):=.inl ⟨_,SqL.of h,rfl⟩
theorem ams(ns:List Nat):(du ns).isEmpty=ns.isEmpty:=by
 unfold du
 cases ns<;>rfl
theorem fu.at{α:Type}{enc:α->List V}{H:Hp}{L:Addr}{cs:List α}(h:fu enc H L cs){i:Nat}{c:α}(hc:cs[i]? = some c):∃(ps:List Addr) (p:Addr),H L=some (.lst (ps.map V.ref))/\(ps.map V.ref)[i]? = some (V.ref p)/\H p=some (.tup (enc c)):=by
 obtain⟨ps,h1,h2⟩:=h
 have hl:=je h2
 have hi:i<ps.length:=by rw[hl];exact(List.getElem?_eq_some_iff.mp hc).1
 obtain⟨c',hc',hp⟩:=ph h2 (List.getElem?_eq_getElem hi)
 rw[hc]at hc'
 cases hc'
 exact⟨ps,ps[i],h1,by rw[List.getElem?_map,List.getElem?_eq_getElem hi];rfl,hp⟩
theorem fu.cat{α:Type}{enc:α->List V}{H:Hp}{L:Addr}{cs ds:List α}{ps qs:List Addr}(h1:H L=some (.lst (ps.map V.ref)))(h2:Paired (λp c=>H p=some (.tup (enc c))) ps cs)(h3:Paired (λp c=>H p=some (.tup (enc c))) qs ds):
  fu enc (upd H L (.lst (ps.map V.ref++qs.map V.ref))) L (cs++ds):=by
 have k:∀{l:List Addr}{m:List α},Paired (λp c=>H p=some (.tup (enc c))) l m->Paired (λp c=>(upd H L (.lst (ps.map V.ref++qs.map V.ref))) p=some (.tup (enc c))) l m:=λh=>m9 (λp c q=>by rw[ao (gb q h1 (by intro z;cases z))];exact q) h
 refine⟨ps++qs,by rw[ak,List.map_append],?_⟩
 have app:∀{l:List Addr}{m:List α},Paired (λp c=>(upd H L (.lst (ps.map V.ref++qs.map V.ref))) p=some (.tup (enc c))) l m->Paired (λp c=>(upd H L (.lst (ps.map V.ref++qs.map V.ref))) p=some (.tup (enc c))) (l++qs) (m++ds):=λ{l m} h=>by
  induction h with
  | nil=>exact k h3
  | cons a t ih=>exact .cons a ih
 exact app (k h2)
section
variable{P:Program}{w:World}{K:PySem.W.Frag}{mg:Str->Option Value}{base:Heap}
theorem ayd{f CS:Addr}(F:Fn K "first_king_on_edge" "first_king_on_edge" ajq ["sheet"] f)(TS:ShT K CS)(gE:GD P w K mg base CX0 1 "on_edge" ["sheet", "cell"] (aqp CS)):
  Def P w K mg base CX0 2 f ["sheet"] (af3 CS u6):=by
 obtain⟨fE,gE,DE⟩:=gE
 refine F.ok0 apo (λvs H Q E h=>?_) (λcdv A outer s H vs Q E hr h=>?_)
 ·obtain⟨sh,s,len,rfl,_⟩:=h
  rfl
 ·obtain⟨sh,st,len,rfl,hsh,B,q⟩:=h
  have hsh0:=hsh
  obtain⟨dx,nm,g,st0,m,h1,h2,hG,⟨ps,ht1,ht2⟩,hM⟩:=hsh
  have nd:=apo.nd
  refine⟨_,au (t7 PassesOwn.never rfl (aas (dw (pv 0) rfl)) (abi rfl (jk (gm (i:=1) nd rfl (Or.inl rfl)) (jk (gm (i:=2) nd rfl (Or.inl rfl)) (jk (gm (i:=3) nd rfl (Or.inl rfl)) xu))))
    (bh (jl (iy uq (pv 3) gj (gf _)) (bh (dj (d8 DE hr rfl gE bu (aj (pv 0) (aj (pv 2) aq))))) jq)))
   (bh (dj ach)),?_⟩
  refine⟨_,rfl,sh,CS,dx,_,_,rfl,h1,TS.cl,TS.nStart,rfl,st0,rfl,⟨_,SqL.of ht1⟩,?_⟩
  refine ame (K:=K) (a:=st0) (xs:=ps.map V.ref) (λi σ H'=>∃v1 v2 v3:Option V,σ=[some (.ref sh),v1,v2,v3]/\H'=H/\jj (st.start.take i) 75=[]) ⟨none,none,none,rfl,rfl,rfl⟩ (λi σ H' _ ⟨_,_,_,_,e,_⟩=>SqL.of (by rw[e];exact ht1)) ?_ ?_
  ·rintro i x σ H' hx ⟨v1,v2,v3,rfl,rfl,hn⟩
   rw[List.getElem?_map]at hx
   obtain⟨p,hp,rfl⟩:=Option.map_eq_some_iff.mp hx
   obtain⟨c,hc,hpc⟩:=ph ht2 hp
   have tk:st.start.take (i+1)=st.start.take i++[c]:=by rw[List.take_succ,hc];rfl
   refine⟨p,_,rfl,SqT.of hpc,rfl,_,_,rfl,_,_,rfl,_,_,rfl,rfl,?_⟩
   refine⟨_,rfl,rfl,_,rfl,?_⟩
   show if decide (V.str (sgn c.2.2)=V.str (Str.ofString "K"))=true then _ else _
   rw[abq,yw]
   refine nj (λhcc=>?_) λhcc=>?_
   ·refine⟨_,rfl,_,rfl,sh,st,len,c.2.1,rfl,hsh0,?_⟩
    have e:u6 st=zp st c.2.1:=by
     have hsp:st.start=st.start.take i++(c::st.start.drop (i+1)):=by
      rw[<-List.singleton_append,<-List.append_assoc,<-tk,List.take_append_drop]
     unfold u6
     have hf:jj st.start 75=c::jj (st.start.drop (i+1)) 75:=by
      rw[hsp]
      unfold jj at hn ⊢
      rw[List.filter_append,hn,List.filter_cons,if_pos hcc]
      rw[<-hsp]
      rfl
     rw[hf]
     rfl
    have:=q _ (az.refl _)
    rw[e]at this
    exact this
   ·refine⟨_,_,_,rfl,rfl,?_⟩
    rw[tk]
    unfold jj at hn ⊢
    rw[List.filter_append,hn,List.filter_cons,if_neg hcc]
    rfl
  ·rintro σ H' ⟨v1,v2,v3,rfl,rfl,hn⟩
   rw[List.length_map,je ht2,List.take_length]at hn
   have e:u6 st=false:=by unfold u6;rw[hn];rfl
   have:=q _ (az.refl _)
   rw[e]at this
   exact this
theorem azg{f CS:Addr}(F:Fn K "wrong_goal" "wrong_goal" aj8 ["sheet"] f)(TS:ShT K CS)(h7:fc mg "GOAL" 7)(h0:fc mg "GOAL_EDGE" 0)(gK:GD P w K mg base CX0 2 "first_king_on_edge" ["sheet"] (af3 CS u6))
  (gP:GD P w K mg base CX0 1 "places_of" ["board", "sign"] (af5 K)):Def P w K mg base CX0 3 f ["sheet"] (acp CS λs _=>uw s):=by
 obtain⟨u7,h7,r7⟩:=h7
 obtain⟨u0,h0,r0⟩:=h0
 obtain⟨fK,gK,DK⟩:=gK
 obtain⟨fP,gP,DP⟩:=gP
 refine F.ok0 ap4 (λvs H Q E h=>?_) (λcdv A outer s H vs Q E hr h=>?_)
 ·obtain⟨sh,s,len,rfl,_⟩:=h
  rfl
 ·obtain⟨sh,st,len,rfl,hsh,B,q⟩:=h
  have hsh0:=hsh
  obtain⟨dx,nm,g,st0,m,h1,h2,hG,hS,hM⟩:=hsh
  have nd:=ap4.nd
  have hr1:=hr.mono (j:=1) (by decide)
  refine⟨_,au (cz (i:=1) nd rfl (Or.inl rfl) (gk o7 (gk m8 (dw (pv 0) rfl) (di (by rfl) h7 r7) (λ_ _=>rfl)) dm (λ_ _=>rfl)))
   (au (jl (iy uq (gk o7 (gk m8 (dw (pv 0) rfl) (di (by rfl) h7 r7) (λ_ _=>rfl)) dm (λ_ _=>rfl)) (di (by rfl) h0 r0) (gf _))
    (bh (cz (i:=2) nd rfl (Or.inl rfl) (d8 DK hr rfl gK bu (aj (pv 0) aq))))
    (bh (cz (i:=2) nd rfl (Or.inl rfl) (az4 (K:=K) (d8 DP hr1 rfl gP bu (aj (dw (pv 0) rfl) (aj gj aq)))))))
   (bh (dj (adq (uc (pv 2)) (ju (aj (ur (aj (pv 1) (aj dm aq))) aq)) (ju aq))))),?_⟩
  have hm7:7<st.marks.length:=by rw[B.m];decide
  obtain⟨ps,p,hL,hp,hpt⟩:=hM.at (List.getElem?_eq_getElem hm7)
  have eget:st.marks.getD 7 (0,0)=st.marks[7]:=by simp[List.getD,hm7]
  have emk:jy st 7=st.marks[7].2:=by unfold jy;rw[eget]
  refine⟨_,rfl,sh,CS,dx,_,_,rfl,h1,TS.cl,TS.nMarks,rfl,m,_,_,_,rfl,rfl,SqL.of hL,gr (j:=7) hp,p,_,_,_,rfl,rfl,SqT.of hpt,gr (j:=0) rfl,?_⟩
  refine⟨_,rfl,sh,CS,dx,_,_,rfl,h1,TS.cl,TS.nMarks,rfl,m,_,_,_,rfl,rfl,SqL.of hL,gr (j:=7) hp,p,_,_,_,rfl,rfl,SqT.of hpt,gr (j:=1) rfl,rfl,_,rfl,?_⟩
  have fin:∀(b:Bool) (H':Hp),az H H'->b=(if jy st 7=0 then u6 st else(placesOf st.ground 88).isEmpty)->tIf (tB (jc 2)) (ad8 (lu (aec (lu (jc 1) (lu (tC (V.int 5)) jb))) jb)) (ad8 jb) [some (.ref sh),some (.int (st.marks[7].1:Int)),some (.bl b)] H' Q:=λb H' s' hb=>by
   refine⟨_,rfl,b,rfl,?_⟩
   have ew:uw st=if b=true then[(st.marks[7].1,5)] else[]:=by unfold uw;rw[hb,eget]
   cases b with
   | true =>
    refine d9 ⟨_,rfl,by show 2<=sizeLine;decide,λt ht=>⟨by show 1<=sizeLine;decide,λL hL'=>?_⟩⟩
    have s2:=dz (o:=.tup [.int (st.marks[7].1:Int),.int 5]) s' ht
    refine q _ L (s2.free hL') ?_ (dz s2 hL')
    show fu markV _ L (uw st)
    rw[ew]
    exact⟨[t],ak,.cons (by rw[ao (bx ak hL'),ak];rfl) .nil⟩
   | false =>
    refine gh ⟨Nat.zero_le _,λL hL'=>?_⟩
    refine q _ L (s'.free hL') ?_ (dz s' hL')
    show fu markV _ L (uw st)
    rw[ew]
    exact .nil ak
  rw[dV (p:=jy st 7=0) (by rw[emk];omega)]
  refine nj (λhc=>?_) λhc=>?_
  ·have hc:=of_decide_eq_true hc
   refine⟨_,rfl,sh,st,len,rfl,hsh0,B,λH' s'=>?_⟩
   exact fin _ H' s' (by rw[if_pos hc])
  ·have hc:¬jy st 7=0:=λz=>hc (decide_eq_true z)
   refine⟨_,rfl,sh,CS,dx,_,_,rfl,h1,TS.cl,TS.nGround,rfl,g,88,st.ground,?_,hG,Nat.le_trans B.g (by decide),λL hLn=>⟨_,akl ak,?_⟩⟩
   ·rw[<-a2p]
    rfl
   ·refine fin _ _ (dz (az.refl H) hLn) ?_
    rw[if_neg hc,Bool.not_not,ams]
theorem ayy{f CS:Addr}(F:Fn K "seat_is_asked_for" "seat_is_asked_for" aj2 ["sheet"] f)(TS:ShT K CS)(h4:fc mg "PASSED" 4)(h1':fc mg "SEAT_PASSED" 1)(h5:fc mg "SEAT" 5)(h0:fc mg "SEAT_QUIET" 0):
  Def P w K mg base CX0 1 f ["sheet"] (af3 CS abp):=by
 obtain⟨u4,h4,r4⟩:=h4
 obtain⟨u1,h1',r1⟩:=h1'
 obtain⟨u5,h5,r5⟩:=h5
 obtain⟨u0,h0,r0⟩:=h0
 refine F.ok0 a2a (λvs H Q E h=>?_) (λcdv A outer s H vs Q E hr h=>?_)
 ·obtain⟨sh,s,len,rfl,_⟩:=h
  rfl
 ·obtain⟨sh,st,len,rfl,⟨dx,nm,g,st0,m,h1,h2,hG,hS,hM⟩,B,q⟩:=h
  refine⟨_,bh (dj (adt (tu aaq (gk o7 (gk m8 (dw (pv 0) rfl) (di (by rfl) h4 r4) (λ_ _=>rfl)) dm (λ_ _=>rfl)) (di (by rfl) h1' r1) (gf _))
   (afc (tu aaq (gk o7 (gk m8 (dw (pv 0) rfl) (di (by rfl) h5 r5) (λ_ _=>rfl)) dm (λ_ _=>rfl)) (di (by rfl) h0 r0) (gf _))))),?_⟩
  have hm4:4<st.marks.length:=by rw[B.m];decide
  have hm5:5<st.marks.length:=by rw[B.m];decide
  obtain⟨ps,p,hL,hp,hpt⟩:=hM.at (List.getElem?_eq_getElem hm4)
  obtain⟨ps',p',hL',hp',hpt'⟩:=hM.at (List.getElem?_eq_getElem hm5)
  have e4:jy st 4=st.marks[4].2:=by unfold jy;simp[List.getD,hm4]
  have e5:jy st 5=st.marks[5].2:=by unfold jy;simp[List.getD,hm5]
  have q:=q H (az.refl H)
  unfold abp at q
  refine⟨_,rfl,sh,CS,dx,_,_,rfl,h1,TS.cl,TS.nMarks,rfl,m,_,_,_,rfl,rfl,SqL.of hL,gr (j:=4) hp,p,_,_,_,rfl,rfl,SqT.of hpt,gr (j:=1) rfl,rfl,_,rfl,?_⟩
  rw[dV (p:=jy st 4=1) (by rw[e4];omega)]
  have en:(!decide (jy st 4=1))=decide (jy st 4≠1):=(decide_not ..).symm
  rw[en]
  cases e:decide (jy st 4≠1)with
  | true=>rw[e]at q;exact d9 q
  | false =>
   rw[e]at q
   refine gh ⟨_,rfl,sh,CS,dx,_,_,rfl,h1,TS.cl,TS.nMarks,rfl,m,_,_,_,rfl,rfl,SqL.of hL',gr (j:=5) hp',p',_,_,_,rfl,rfl,SqT.of hpt',gr (j:=1) rfl,rfl,?_⟩
   rw[dV (p:=jy st 5=0) (by rw[e5];omega)]
   have en:(!decide (jy st 5=0))=decide (jy st 5≠0):=(decide_not ..).symm
   rw[en]
   exact q
end
theorem awl(a b:Nat×Nat):HT.lexLt [(a.1:Int),(a.2:Int)] [(b.1:Int),(b.2:Int)]=Hm.before a b:=by
 show(if (a.1:Int)=(b.1:Int)then(if (a.2:Int)=(b.2:Int)then false else decide ((a.2:Int)<(b.2:Int)))else decide ((a.1:Int)<(b.1:Int)))=_
 unfold Hm.before
 by_cases h1:a.1=b.1
 ·rw[if_pos (by omega)]
  by_cases h2:a.2=b.2
  ·rw[if_pos (by omega),decide_eq_false (by omega),decide_eq_false (p:=a.2<b.2) (by omega),Bool.and_false]
   rfl
  ·rw[if_neg (by omega),decide_eq_false (p:=a.1<b.1) (by omega),beq_iff_eq.mpr h1,Bool.true_and,Bool.false_or]
   exact decide_eq_decide.mpr (by omega)
 ·rw[if_neg (by omega),beq_eq_false_iff_ne.mpr h1,Bool.false_and,Bool.or_false]
  exact decide_eq_decide.mpr (by omega)
theorem ak3{bt bt':Nat->Nat->Bool}:∀k,(∀i j,i<=k->j<=k->bt i j=bt' i j)->argBest bt k=Hm.best bt' k
 | 0,_=>rfl
 | k+1,h=>by
  have ih:=ak3 (bt:=bt) (bt':=bt') k λi j hi hj=>h i j (by omega) (by omega)
  have hb:=Hm.aej bt' k
  rw[argBest,Hm.best,ih,h _ _ (Nat.le_refl _) (by omega)]
def aai(l:List (Nat×Nat)):Nat×Nat:=l.getD (Hm.best (λi j=>Hm.before (l.getD i (0,0)) (l.getD j (0,0))) (l.length-1)) (0,0)
def aqn(CS TF:Addr):Sp:=λvs H Q E=>∃(sh:Addr) (s:Sh) (len:Nat),vs=[.ref sh]/\yg CS H sh s len/\ShB s /\
 (if uz s len=[] then ∀H',az H H'->Q .non H' else Told TF E ((aai (uz s len)).2:Int) ((aai (uz s len)).1:Int) (az H))
theorem more_le(cs:List Sq)(c:UInt8)(k:Nat):(aam cs c k).length<=cs.length:=by
 unfold aam placesOf jj
 rw[List.length_map,List.length_drop,List.length_map]
 have:=List.length_filter_le (λq:Sq=>q.2.2==c) cs
 omega
theorem a5a(s:Sh):(vf s).length<=s.ground.length:=by
 unfold vf
 rw[List.length_map]
 have:=List.length_filter_le (λq:Sq×Sq=>yc q.2.2.2 q.1.2.2) (s.ground.zip s.start)
 rw[List.length_zip]at this
 omega
theorem au2(s:Sh):(uw s).length<=1:=by
 unfold uw
 generalize (if jy s 7=0 then u6 s else(placesOf s.ground 88).isEmpty)=b
 cases b
 ·exact Nat.zero_le _
 ·exact Nat.le_refl _
theorem av9(s:Sh)(n:Nat):(sr s n).length<=1:=by
 unfold sr
 split
 ·exact Nat.le_refl _
 ·split
  ·exact Nat.le_refl _
  ·exact Nat.zero_le _
theorem acu{K:PySem.W.Frag}{H:Hp}{L:Addr}{ns:List Nat}{b:Bool}(h:H L=some (.lst (du ns)))(hb:ns.isEmpty=b):aby K (.ref L) H (!b):=by
 have:=akl (K:=K) h
 rw[ams,hb]at this
 exact this
section
variable{P:Program}{w:World}{K:PySem.W.Frag}{mg:Str->Option Value}{base:Heap}
theorem ayn{f CS:Addr}(F:Fn K "lacks" "lacks" ajw ["sheet"] f)(TS:ShT K CS)(gA:GD P w K mg base CX0 1 "seat_is_asked_for" ["sheet"] (af3 CS abp))
  (gP:GD P w K mg base CX0 1 "places_of" ["board", "sign"] (af5 K)):Def P w K mg base CX0 2 f ["sheet"] (acp CS sr):=by
 obtain⟨fA,gA,DA⟩:=gA
 obtain⟨fP,gP,DP⟩:=gP
 refine F.ok0 a1z (λvs H Q E h=>?_) (λcdv A outer s H vs Q E hr h=>?_)
 ·obtain⟨sh,s,len,rfl,_⟩:=h
  rfl
 ·obtain⟨sh,st,len,rfl,hsh,B,q⟩:=h
  have hsh0:=hsh
  obtain⟨dx,nm,g,st0,m,h1,h2,hG,hS,hM⟩:=hsh
  refine⟨_,au (jl (PW.pt (yu (u9 (abk (d8 DP hr rfl gP bu (aj (dw (pv 0) rfl) (aj gj aq))) (λ_=>rfl)))
     (ack (u9 (abk (d8 DP hr rfl gP bu (aj (dw (pv 0) rfl) (aj gj aq))) (λ_=>rfl))))))
    (bh (dj (ju (aj (ur (aj (dw (pv 0) rfl) (aj dm aq))) aq)))) jq)
   (au (jl (PW.pt (afl (uc (d8 DA hr rfl gA bu (aj (pv 0) aq)))
     (afm (u9 (abk (d8 DP hr rfl gP bu (aj (dw (pv 0) rfl) (aj gj aq))) (λ_=>rfl))))))
    (bh (dj (ju (aj (ur (aj (dw (pv 0) rfl) (aj dm aq))) aq)))) jq)
   (bh (dj (ju aq)))),?_⟩
  have yes:∀H',az H H'->sr st len=[(len,6)]->ad8 (lu (aec (lu (ad7 K (jc 0) "length") (lu (tC (V.int 6)) jb))) jb) [some (.ref sh)] H' Q:=λH' s' e=>by
   refine⟨_,rfl,sh,CS,dx,_,_,rfl,s' _ _ h1,TS.cl,TS.nLength,rfl,by show 2<=sizeLine;decide,λt ht=>⟨by show 1<=sizeLine;decide,λL hL'=>?_⟩⟩
   have s2:=dz (o:=.tup [.int (len:Int),.int 6]) s' ht
   refine q _ L (s2.free hL') ?_ (dz s2 hL')
   rw[e]
   exact⟨[t],ak,.cons (by rw[ao (bx ak hL'),ak];rfl) .nil⟩
  have ts:st.start.length<=1000000:=Nat.le_trans B.t (by decide)
  have tg:st.ground.length<=1000000:=Nat.le_trans B.g (by decide)
  have no:∀H',az H H'->sr st len=[]->ad8 jb [some (.ref sh)] H' Q:=λH' s' e=>by
   refine⟨Nat.zero_le _,λL hL'=>q _ L (s'.free hL') ?_ (dz s' hL')⟩
   rw[e]
   exact .nil ak
  cases k1:(placesOf st.start 75).isEmpty with
  | true =>
   refine⟨_,rfl,sh,CS,dx,_,_,rfl,h1,TS.cl,TS.nStart,rfl,st0,75,st.start,by rw[<-abq];rfl,hS,ts,λL1 hL1=>⟨_,acu ak k1,d9 (d9 (yes _ (dz (az.refl H) hL1) ?_))⟩⟩
   unfold sr
   rw[if_pos (.inl k1)]
  | false =>
  refine⟨_,rfl,sh,CS,dx,_,_,rfl,h1,TS.cl,TS.nStart,rfl,st0,75,st.start,by rw[<-abq];rfl,hS,ts,λL1 hL1=>⟨_,acu ak k1,gh ?_⟩⟩
  have s1:=dz (o:=.lst (du (placesOf st.start 75))) (az.refl H) hL1
  cases k2:(placesOf st.start 104).isEmpty with
  | true =>
   refine⟨_,rfl,sh,CS,dx,_,_,rfl,s1 _ _ h1,TS.cl,TS.nStart,rfl,st0,104,st.start,by rw[<-ap9];rfl,hS.same s1,ts,λL2 hL2=>⟨_,acu ak k2,d9 (yes _ (dz s1 hL2) ?_)⟩⟩
   unfold sr
   rw[if_pos (.inr k2)]
  | false =>
  refine⟨_,rfl,sh,CS,dx,_,_,rfl,s1 _ _ h1,TS.cl,TS.nStart,rfl,st0,104,st.start,by rw[<-ap9];rfl,hS.same s1,ts,λL2 hL2=>⟨_,acu ak k2,gh ?_⟩⟩
  have s2:=dz (o:=.lst (du (placesOf st.start 104))) s1 hL2
  have no1:¬((placesOf st.start 75).isEmpty=true\/(placesOf st.start 104).isEmpty=true):=λz=>by
   rw[k1,k2]at z
   rcases z with z | z<;>cases z
  refine⟨_,rfl,sh,st,len,rfl,hsh0.same s2,B,λH3 s3=>⟨_,rfl,?_⟩⟩
  have s03:=s2.trans s3
  cases ea:abp st with
  | false =>
   refine gh (gh (no _ s03 ?_))
   unfold sr
   rw[if_neg no1,if_neg (by rw[ea];rintro⟨z,_⟩;cases z)]
  | true =>
   cases k3:(placesOf st.ground 83).isEmpty with
   | true =>
    refine d9 ⟨_,rfl,sh,CS,dx,_,_,rfl,s03 _ _ h1,TS.cl,TS.nGround,rfl,g,83,st.ground,by rw[<-af2];rfl,hG.same s03,tg,λL4 hL4=>⟨_,acu ak k3,d9 (yes _ (dz s03 hL4) ?_)⟩⟩
    unfold sr
    rw[if_neg no1,if_pos ⟨ea,k3⟩]
   | false =>
    refine d9 ⟨_,rfl,sh,CS,dx,_,_,rfl,s03 _ _ h1,TS.cl,TS.nGround,rfl,g,83,st.ground,by rw[<-af2];rfl,hG.same s03,tg,λL4 hL4=>⟨_,acu ak k3,gh (no _ (dz s03 hL4) ?_)⟩⟩
    unfold sr
    rw[if_neg no1,if_neg (by rw[k3];rintro⟨_,z⟩;cases z)]
theorem ax9{f CS TF:Addr}(F:Fn K "check_sheet" "check_sheet" ajn ["sheet"] f)(TS:ShT K CS)(hmin:mg "min" = none)(gM:GD P w K mg base CX0 2 "more_than_one" ["board", "sign", "kind"] (aq3 K))
  (gW:GD P w K mg base CX0 2 "wrong_pieces" ["sheet"] (acp CS λs _=>vf s)) (gG:GD P w K mg base CX0 3 "wrong_goal" ["sheet"] (acp CS λs _=>uw s)) (gL:GD P w K mg base CX0 2 "lacks" ["sheet"] (acp CS sr)) (TD:TFd P w K mg base TF) :
  Def P w K mg base (XC P w) 4 f ["sheet"] (aqn CS TF):=by
 obtain⟨fM,gM,DM⟩:=gM
 obtain⟨fW,gW,DW⟩:=gW
 obtain⟨fG,gG,DG⟩:=gG
 obtain⟨fL,gL,DL⟩:=gL
 obtain⟨⟨fT,MT,DT⟩,xT,hT⟩:=TD
 refine F.okX apl (λvs H Q E h=>?_) (λcdv A outer s H vs Q E hr h=>?_)
 ·obtain⟨sh,s,len,rfl,_⟩:=h
  rfl
 ·obtain⟨sh,st,len,rfl,hsh,B,q⟩:=h
  have hsh0:=hsh
  obtain⟨dx,nm,g,st0,m,h1,h2,hG,hS,hM⟩:=hsh
  have nd:=apl.nd
  have hr2:=hr.mono (j:=2) (by decide)
  refine⟨_,au (cz (i:=1) nd rfl (Or.inl rfl) (d8 DM hr2 rfl gM bu (aj (dw (pv 0) rfl) (aj gj (aj dm aq)))))
   (au (ig (su PySem.F.plainAttrs_list PySem.F.slot_list_extend PySem.F.type_list_extend aan (pv 1) (aj (d8 DW hr2 rfl gW bu (aj (pv 0) aq)) aq)))
   (au (ig (su PySem.F.plainAttrs_list PySem.F.slot_list_extend PySem.F.type_list_extend aan (pv 1) (aj (d8 DM hr2 rfl gM bu (aj (dw (pv 0) rfl) (aj gj (aj dm aq)))) aq)))
   (au (ig (su PySem.F.plainAttrs_list PySem.F.slot_list_extend PySem.F.type_list_extend aan (pv 1) (aj (d8 DG hr rfl gG bu (aj (pv 0) aq)) aq)))
   (au (ig (su PySem.F.plainAttrs_list PySem.F.slot_list_extend PySem.F.type_list_extend aan (pv 1) (aj (d8 DL hr2 rfl gL bu (aj (pv 0) aq)) aq)))
   (bh (jl (abk (pv 1) (λ_=>rfl)) (au (cz (i:=2) nd rfl (Or.inl rfl) (jg (atw rfl (ab3 hr)) (by rfl) hmin PyProof.Rows.boot_min (aj (pv 1) aq)))
    (bh (wk rfl wz (ado MT DT hr rfl hT (by decide) bu (aj (gk o7 (pv 2) dm (λ_ _=>rfl)) (aj (gk o7 (pv 2) dm (λ_ _=>rfl)) aq)))))) jq)))))),?_⟩
  have ts:st.start.length<=1000000:=Nat.le_trans B.t (by decide)
  have tg:st.ground.length<=1000000:=Nat.le_trans B.g (by decide)
  refine⟨_,rfl,sh,CS,dx,_,_,rfl,h1,TS.cl,TS.nGround,rfl,g,83,2,st.ground,by rw[<-af2];rfl,hG,tg,λH1 L hL0 hT1 s1=>?_⟩
  have b1:=more_le st.ground 83 2
  have b2:=a5a st
  have b3:=more_le st.start 75 4
  have b4:=au2 st
  have b5:=av9 st len
  have bg:=B.g
  have bt:=B.t
  have grow:∀{H1 H2:Hp}{N:Addr}{cs ds:List (Nat×Nat)},az H H1->fu markV H1 L cs->az H1 H2->fu markV H2 N ds->cs.length<=10000->ds.length<=10000->∃xs zs,H2 L=some (.lst xs)/\H2 N=some (.lst zs)/\xs.length+zs.length<=sizeLine/\az H (upd H2 L (.lst (xs++zs)))/\fu markV (upd H2 L (.lst (xs++zs))) L (cs++ds):=λ{H1 H2 N cs ds} s hc s2 hd l1 l2=>by
   obtain⟨ps,p1,p2⟩:=hc.same s2
   obtain⟨qs,q1,q2⟩:=hd
   have e1:=je p2
   have e2:=je q2
   exact⟨_,_,p1,q1,by rw[List.length_map,List.length_map,sizeLine_eq];omega,ji (s.trans s2) hL0,fu.cat (enc:=markV) p1 p2 q2⟩
  have seqL:∀{H1:Hp}{cs:List (Nat×Nat)},fu markV H1 L cs->∃xs,SqL K H1 L xs:=λ⟨ps,p1,_⟩=>⟨_,SqL.of p1⟩
  refine⟨_,rfl,.inl ⟨rfl,seqL hT1⟩,_,rfl,sh,st,len,rfl,hsh0.same s1,B,λH2 N2 _ hN2 s2=>?_⟩
  obtain⟨xs,zs,a1,a2,a3,s3,hT3⟩:=grow s1 hT1 s2 hN2 (by omega) (by show(vf st).length<=_;omega)
  refine⟨L,N2,xs,zs,rfl,rfl,a1,a2,a3,?_⟩
  refine⟨_,rfl,.inl ⟨rfl,seqL hT3⟩,_,rfl,sh,CS,dx,_,_,rfl,s3 _ _ h1,TS.cl,TS.nStart,rfl,st0,75,4,st.start,by rw[<-abq];rfl,hS.same s3,ts,λH4 N4 _ hN4 s4=>?_⟩
  obtain⟨xs,zs,a1,a2,a3,s5,hT5⟩:=grow s3 hT3 s4 hN4 (by rw[List.length_append];show _+(vf st).length<=_;omega) (by omega)
  refine⟨L,N4,xs,zs,rfl,rfl,a1,a2,a3,?_⟩
  refine⟨_,rfl,.inl ⟨rfl,seqL hT5⟩,_,rfl,sh,st,len,rfl,hsh0.same s5,B,λH6 N6 _ hN6 s6=>?_⟩
  obtain⟨xs,zs,a1,a2,a3,s7,hT7⟩:=grow s5 hT5 s6 hN6 (by rw[List.length_append,List.length_append];show _+(vf st).length+_<=_;omega) (by show(uw st).length<=_;omega)
  refine⟨L,N6,xs,zs,rfl,rfl,a1,a2,a3,?_⟩
  refine⟨_,rfl,.inl ⟨rfl,seqL hT7⟩,_,rfl,sh,st,len,rfl,hsh0.same s7,B,λH8 N8 _ hN8 s8=>?_⟩
  obtain⟨xs,zs,a1,a2,a3,s9,hT9⟩:=grow s7 hT7 s8 hN8 (by rw[List.length_append,List.length_append,List.length_append];show _+(vf st).length+_+(uw st).length<=_;omega) (by omega)
  refine⟨L,N8,xs,zs,rfl,rfl,a1,a2,a3,?_⟩
  generalize upd H8 L (.lst (xs++zs))=H9 at s9 hT9 ⊢
  have hT9:fu markV H9 L (uz st len):=hT9
  generalize hfl:uz st len=fl at hT9 q
  obtain⟨ps,p1,p2⟩:=hT9
  have el:=je p2
  refine⟨_,rfl,_,akl p1,?_⟩
  cases fl with
  | nil =>
   cases ps with
   | cons _ _=>cases p2
   | nil =>
    refine gh ?_
    rw[if_pos rfl]at q
    exact q H9 s9
  | cons x xs =>
   cases ps with
   | nil=>cases p2
   | cons y ys =>
    rw[if_neg (by simp)]at q
    refine d9 ?_
    have hk:∀(i:Nat) (p:Addr) (k:List Int),(y::ys)[i]? = some p->((x::xs).map λc:Nat×Nat=>[(c.1:Int),(c.2:Int)])[i]? = some k->SqT K H9 p (k.map V.int):=λi p k e1 e2=>by
     obtain⟨c,hc,hp⟩:=ph p2 e1
     rw[List.getElem?_map,hc]at e2
     cases e2
     exact SqT.of hp
    refine⟨_,rfl,L,y::ys,(x::xs).map λc:Nat×Nat=>[(c.1:Int),(c.2:Int)],rfl,SqL.of p1,by rw[List.length_map];exact el,Nat.succ_pos _,hk,λp hp=>?_⟩
    have gd:∀i,i<=(x::xs).length-1->((x::xs).map λc:Nat×Nat=>[(c.1:Int),(c.2:Int)]).getD i []=[(((x::xs).getD i (0,0)).1:Int),(((x::xs).getD i (0,0)).2:Int)]:=λi hi=>by
     have hi:i<(x::xs).length:=by rw[List.length_cons]at hi ⊢;omega
     rw[List.getD,List.getElem?_map,List.getD,List.getElem?_eq_getElem hi]
     rfl
    rw[el,ak3 (bt':=λi j=>Hm.before ((x::xs).getD i (0,0)) ((x::xs).getD j (0,0))) _ (λi j hi hj=>by rw[gd i hi,gd j hj,awl])]at hp
    obtain⟨c,hc,hpc⟩:=ph p2 hp
    have ef:aai (x::xs)=c:=by
     unfold aai
     rw[List.getD,hc]
     rfl
    rw[ef]at q
    refine⟨_,rfl,p,_,_,_,rfl,rfl,SqT.of hpc,gr (j:=1) rfl,_,rfl,p,_,_,_,rfl,rfl,SqT.of hpc,gr (j:=0) rfl,λe hne=>?_⟩
    refine⟨e,[.int (c.2:Int),.int (c.1:Int)],rfl,rfl,ak,xT,λdx2 l2 g1 g2 g3=>⟨rfl,e,TF,dx2,rfl,ak,MT.xc,?_⟩⟩
    exact aes hne g1 g2 g3 λH' a1 a2 a3=>q dx2 l2 H' a1 a2 (s9.trans a3)
end
open Tafl (Bytes Cur Rules Kind Piece)
open Hm (Sq Sh jj kj yj)
open TaflRules (kindCells pieceCells factsOf)
theorem an4{X:Cx}{K:PySem.W.Frag}{e:Expr}{f:Str}{pos:Pos}{ta:TE}(he:PE X e ta)(hb:attributeBase e f X.env (eval e X.env)=eval e X.env)(hK:X.K=K:=by rfl):PE X (.Attribute e f pos) (ad7 K ta f):=hK▸dw he hb
def aa7(H:Hp)(L:Addr)(ll:List (List Nat)):Prop:=∃qs:List Addr,H L=some (.lst (qs.map V.ref))/\Paired (λq l=>q≠L/\H q=some (.lst (du l))) qs ll
theorem aa7.same{H H':Hp}{L:Addr}{ll:List (List Nat)}(h:aa7 H L ll)(k:az H H'):aa7 H' L ll :=
 let ⟨qs,h1,h2⟩:=h;⟨qs,k _ _ h1,m9 (λ_ _ q=>⟨q.1,k _ _ q.2⟩) h2⟩
def Made(H0 H:Hp)(D:Addr)(ll:List (List Nat)):Prop:=∃qs:List Addr,H D=some (.lst (qs.map V.ref))/\Paired (λq l=>H0 q=none/\q≠D/\H q=some (.lst (du l))) qs ll
theorem aal(l:List Nat):(Tafl.asInts l).map V.int=du l:=by
 unfold Tafl.asInts du
 rw[List.map_map]
 rfl
theorem am2{K:PySem.W.Frag}{z:Str}{cs:Bytes}{ll:List (List Nat)}{bd:Addr}{csq:List Sq}{g:TG}{tt:TT}{te:TE}{vs:List Nat}{σ:L2.St}{H1:Hp}{D:Addr}{Qd:Hp->Prop}(hz:z.cps.toList=cs.map UInt8.toNat)(hl:ll.length=cs.length)(few:cs.length<=1000)
  (hD:H1 D=none) (rise:∀(i:Nat) (c:UInt8) (l:List Nat),cs[i]? = some c->ll[i]? = some l->∀ns:List Int,ns.Perm ((jj csq c).map λq=>(q.2.1:Int))->ns.Pairwise (·<=·)->ns=Tafl.asInts l)
  (step:∀(c:UInt8) (Hc:Hp) (R:Hp->Prop),az H1 Hc->(∀H' p (ns:List Int),ns.Perm ((jj csq c).map λq=>(q.2.1:Int))->ns.Pairwise (·<=·)->Hc p=none->H' p=some (.lst (ns.map V.int))->az Hc H'->∃acc,H' D=some (.lst acc)/\acc.length<sizeLine/\R (upd H' D (.lst (acc++[.ref p])))) ->
   g (.str (sgn c)) (wipe σ vs) Hc λσ2 H2=>wipe σ2 vs=wipe σ vs/\tt σ2 H2 λb H3=>if b=true then te σ2 H3 λy H4=>∃acc,H4 D=some (.lst acc)/\acc.length<sizeLine/\R (upd H4 D (.lst (acc++[y])))else R H3)
  (fin:∀H',az H1 H'->Made H1 H' D ll->Qd H') :
  ∃W:Nat->Nat->Hp->Prop,(∃m,W 0 m (upd H1 D (.lst [])))/\∀i m H,W i m H ->
   ((Its z).stop i H/\Qd H)\/((Its z).go i H/\∃Nx:Hp->Prop,(∀H',Nx H'->∃m',m'<m/\W (i+1) m' H')/\∀x H',(Its z).yld i H x H'->g x (wipe σ vs) H' λσ2 H2=>wipe σ2 vs=wipe σ vs/\tt σ2 H2 λb H3 =>
    if b=true then te σ2 H3 λy H4=>∃acc,H4 D=some (.lst acc)/\acc.length<sizeLine/\Nx (upd H4 D (.lst (acc++[y])))else Nx H3):=by
 have ezl:=str_len hz
 rw[List.length_map]at ezl
 have ezs:z.cps.size=cs.length:=ezl
 refine aey cs.length (λi Hc=>az H1 Hc/\Made H1 Hc D (ll.take i)) ⟨dz (az.refl H1) hD,[],ak,.nil⟩ ?_ ?_
 ·rintro i Hc hi ⟨s',qs,h1,h2⟩
  refine⟨by show i<z.cps.size;omega,?_⟩
  rintro x H' ⟨rfl,c0,hc0,rfl⟩
  have e0:c0=cs[i].toNat:=by
   have e1:z.cps.toList[i]? = some c0:=by simpa using hc0
   rw[hz,List.getElem?_map,List.getElem?_eq_getElem hi]at e1
   cases e1
   rfl
  subst e0
  have hli:i<ll.length:=by omega
  have tk:ll.take (i+1)=ll.take i++[ll[i]]:=by rw[List.take_succ,List.getElem?_eq_getElem hli];rfl
  have hlen:=je h2
  rw[List.length_take]at hlen
  refine step cs[i] _ _ s' λH9 p ns hp hs hpn hp' s2=>⟨qs.map V.ref,s2 _ _ h1,by rw[List.length_map,sizeLine_eq];omega,?_⟩
  have nDp:D≠p:=bx h1 hpn
  have en:=rise i _ _ (List.getElem?_eq_getElem hi) (List.getElem?_eq_getElem hli) ns hp hs
  subst en
  rw[aal]at hp'
  refine⟨ji (s'.trans s2) hD,qs++[p],by rw[ak,List.map_append];rfl,?_⟩
  rw[tk]
  refine adn ⟨s'.free hpn,Ne.symm nDp,by rw[ao (Ne.symm nDp)];exact hp'⟩ (m9 (λq l k=>⟨k.1,k.2.1,by rw[ao k.2.1];exact s2 _ _ k.2.2⟩) h2)
 ·rintro Hc ⟨s',h⟩
  rw[<-hl,List.take_length]at h
  exact⟨by show z.cps.size<=cs.length;omega,fin Hc s' h⟩
def aqr(CS:Addr):Sp:=λvs H Q _=>∃(sh:Addr) (s:Sh) (len:Nat) (r:Rules) (b:Bytes),vs=[.ref sh]/\yg CS H sh s len/\ShB s/\kj s r/\Tafl.judge b=.ok r/\∀H' L,H L=none->H' L=some (.lst (du (factsOf r)))->az H H'->Q (.ref L) H'
def aq1(CS:Addr):Sp:=λvs H Q _=>∃(sh:Addr) (s:Sh) (len:Nat) (r:Rules),vs=[.ref sh]/\yg CS H sh s len/\ShB s/\kj s r/\∀H' L,H L=none->aa7 H' L (yj r)->az H H'->Q (.ref L) H'
section
variable{P:Program}{w:World}{K:PySem.W.Frag}{mg:Str->Option Value}{base:Heap}
theorem ayc{f CS:Addr}(F:Fn K "facts_of" "facts_of" afv ["sheet"] f)(TS:ShT K CS)(gC:GD P w K mg base CX0 1 "cells_of" ["board", "sign"] (akd K)):Def P w K mg base CX0 2 f ["sheet"] (aqr CS):=by
 obtain⟨fC,gC,DC⟩:=gC
 refine F.ok0 apn (λvs H Q E h=>?_) (λcdv A outer s H vs Q E hr h=>?_)
 ·obtain⟨sh,s,len,r,b,rfl,_⟩:=h
  rfl
 ·obtain⟨sh,st,len,r,b,rfl,hsh,B,hof,hj,q⟩:=h
  obtain⟨dx,nm,g,st0,m,h1,h2,hG,hS,hM⟩:=hsh
  have nd:=apn.nd
  refine⟨_,au (cz (i:=1) nd rfl (Or.inl rfl) (ju (aj (dw (pv 0) rfl) (aj (dw (pv 0) rfl) aq))))
   (au (ig (su PySem.F.plainAttrs_list PySem.F.slot_list_extend PySem.F.type_list_extend aan (pv 1) (aj (zr (own:=[("place",2),("number",3)]) rfl nd (aas (dw (pv 0) rfl)) (vp (N:=["sheet", "facts", "place", "number"]) (sc:=bj afv) (by decide +kernel))
    (λ_ _ _ _ _=>adv (K:=K) (n:=2) rfl (jk (gm (i:=2) nd rfl (Or.inl rfl)) (jk (gm (i:=3) nd rfl (Or.inl rfl)) xu))) (λ_ _ _ _ _=>aax) (λ_ _ _ _ _=>pv 3)) aq)))
   (au (ig (su PySem.F.plainAttrs_list PySem.F.slot_list_append PySem.F.type_list_append ace (pv 1) (aj (dw (pv 0) rfl) aq)))
   (au (ig (su PySem.F.plainAttrs_list PySem.F.slot_list_extend PySem.F.type_list_extend aan (pv 1) (aj (d8 DC hr rfl gC bu (aj (dw (pv 0) rfl) (aj gj aq))) aq)))
   (bh (dj (pv 1)))))),?_⟩
  refine⟨_,rfl,sh,CS,dx,_,_,rfl,h1,TS.cl,TS.nWide,rfl,_,rfl,sh,CS,dx,_,_,rfl,h1,TS.cl,TS.nHigh,rfl,by show 2<=sizeLine;decide,λL hL=>?_⟩
  have s1:=dz (o:=.lst [.int (st.wide:Int),.int (st.high:Int)]) (az.refl H) hL
  obtain⟨pm,hm1,hm2⟩:=hM.same s1
  refine⟨_,rfl,.inl ⟨rfl,_,SqL.of ak⟩,_,rfl,sh,CS,dx,_,_,rfl,s1 _ _ h1,TS.cl,TS.nMarks,rfl,m,rfl,⟨_,SqL.of hm1⟩,λD hD=>?_⟩
  refine ahl (λ_=>true) (λq:Nat×Nat=>V.int (q.2:Int)) (hM.same s1) hD (by rw[B.m];decide) (λx p Hc acc R _ hp hacc hl yes no=>?_) ?_
  ·exact⟨p,_,rfl,SqT.of hp,rfl,_,_,rfl,_,_,rfl,rfl,rfl,_,rfl,acc,hacc,hl,yes rfl⟩
  have nLD:L≠D:=bx ak hD
  have ef:st.marks.filter (λ_=>true)=st.marks:=List.filter_eq_self.mpr λ_ _=>rfl
  rw[ef]
  refine⟨L,D,_,_,rfl,rfl,by rw[ao nLD,ak],ak,by rw[List.length_map,B.m];show 2+9<=sizeLine;decide,?_⟩
  have s2:=ji (o:=.lst ([.int (st.wide:Int),.int (st.high:Int)]++st.marks.map λq:Nat×Nat=>V.int (q.2:Int))) (dz (o:=.lst (st.marks.map λq:Nat×Nat=>V.int (q.2:Int))) s1 hD) hL
  refine⟨_,rfl,.inl ⟨rfl,_,SqL.of ak⟩,_,rfl,sh,CS,dx,_,_,rfl,s2 _ _ h1,TS.cl,TS.nLimit,rfl,L,_,_,rfl,rfl,ak,by rw[List.length_append,List.length_map,B.m];show 2+9<sizeLine;decide,?_⟩
  rw[yz]
  have s3:=ji (o:=.lst (([.int (st.wide:Int),.int (st.high:Int)]++st.marks.map λq:Nat×Nat=>V.int (q.2:Int))++[.int (st.limit:Int)])) (dz (o:=.lst (st.marks.map λq:Nat×Nat=>V.int (q.2:Int))) s1 hD) hL
  refine⟨_,rfl,.inl ⟨rfl,_,SqL.of ak⟩,_,rfl,sh,CS,dx,_,_,rfl,s3 _ _ h1,TS.cl,TS.nStart,rfl,st0,75,st.start,by rw[<-abq];rfl,hS.same s3,Nat.le_trans B.t (by decide),λH4 N ns hp hs _ hN s4=>?_⟩
  have en:=Hm.ain hof .king hp hs
  subst en
  rw[aal]at hN
  have hpl:=Hm.aib r .king
  have hmul:=Nat.mul_le_mul hof.h5.2 hof.w5.2
  refine⟨L,N,_,_,rfl,rfl,s4 _ _ ak,hN,?_,?_⟩
  ·rw[List.length_append,List.length_append,List.length_map,B.m]
   unfold du
   rw[List.length_map,sizeLine_eq]
   show 2+9+1+_<=_
   omega
  ·refine⟨_,rfl,q _ L hL ?_ (ji (s3.trans s4) hL)⟩
   rw[ak,<-Hm.facts_eq hj hof]
   unfold du
   rw[List.map_append,List.map_append,List.map_append,List.map_map]
   rfl
end
def rlf(t n f c g:V):List (Str×V):=[("text",t),("name",n),("facts",f),("cells",c),("ground",g)]
structure RlT(K:PySem.W.Frag)(C:Addr):Prop where
 cl:Cls K C
 nText:jn K C "text"
 nName:jn K C "name"
 nFacts:jn K C "facts"
 nCells:jn K C "cells"
 nGround:jn K C "ground"
def aq7(C:Addr):Sp:=λvs H Q _=>∃(x dx:Addr) (t n f c g:V),vs=[.ref x,t,n,f,c,g]/\H x=some (.ins C dx [])/\∀H',H' x=some (.ins C dx (rlf t n f c g))->But x H H'->Q .non H'
def o6(r:Rules):List (Key×V):=(Hm.sqG r).map λq=>(Sum.inl (q.2.1:Int),V.str (sgn q.2.2))
def ue(CR:Addr)(H:Hp)(x:Addr)(r:Rules)(b:Bytes):Prop:=∃dx t n f c g,H x=some (.ins CR dx (rlf (.ref t) (.ref n) (.ref f) (.ref c) (.ref g)))/\H t=some (.lst (bz b))/\H n=some (.lst (bz r.name)) /\
 H f=some (.lst (du (factsOf r)))/\aa7 H c (yj r)/\H g=some (.dK (o6 r))
theorem ue.same{CR:Addr}{H H':Hp}{x:Addr}{r:Rules}{b:Bytes}(h:ue CR H x r b)(k:az H H'):ue CR H' x r b:=by
 obtain⟨dx,t,n,f,c,g,h1,h2,h3,h4,h5,h6⟩:=h
 exact⟨dx,t,n,f,c,g,k _ _ h1,k _ _ h2,k _ _ h3,k _ _ h4,h5.same k,k _ _ h6⟩
def ake(CR TF:Addr):Sp:=λvs H Q E=>∃(a:Addr) (b:Bytes),vs=[.ref a]/\H a=some (.lst (bz b)) /\
 (match Tafl.judge b with
  | .ok r=>∀H' x,H x=none->ue CR H' x r b->az H H'->Q (.ref x) H'
  | .error (k,p)=>Told TF E (k:Int) (p:Int) (az H))
theorem anh:∀(more kvs:List (Key×V)),((kvs++more).map (·.1)).Nodup->yp kvs more=kvs++more
 | [],kvs,_=>by rw[List.append_nil];rfl
 | p::more,kvs,h=>by
  have hn:jd kvs p.1=none:=by
   cases e:jd kvs p.1 with
   | none=>rfl
   | some v =>
    have m:=a4u e
    rw[List.map_append,List.map_cons]at h
    have:=(List.nodup_append.mp h).2.2 _ m p.1 (List.mem_cons_self ..)
    exact absurd rfl this
  show yp (putK kvs p.1 p.2) more=_
  rw[a0o _ hn,anh more _ (by rw[List.append_assoc];exact h),List.append_assoc]
  rfl
section
variable{P:Program}{w:World}{K:PySem.W.Frag}{mg:Str->Option Value}{base:Heap}
theorem ayp{f CS:Addr}(F:Fn K "lists_of" "lists_of" ad1 ["sheet"] f)(TS:ShT K CS)(gC:GD P w K mg base CX0 1 "cells_of" ["board", "sign"] (akd K))(hG:ux mg "LISTED_GROUND" [83,88,35])(hS:ux mg "LISTED_START" [104,109]):
  Def P w K mg base CX0 2 f ["sheet"] (aq1 CS):=by
 obtain⟨fC,gC,DC⟩:=gC
 obtain⟨zG,uG,hG,rG,eG⟩:=hG
 obtain⟨zS,uS,hS,rS,eS⟩:=hS
 refine F.ok0 apt (λvs H Q E h=>?_) (λcdv A outer s H vs Q E hr h=>?_)
 ·obtain⟨sh,s,len,r,rfl,_⟩:=h
  rfl
 ·obtain⟨sh,st,len,r,rfl,hsh,B,hof,q⟩:=h
  obtain⟨dx,nm,g,st0,m,h1,h2,hGr,hSt,hM⟩:=hsh
  have nd:=apt.nd
  refine⟨_,au (aif (i:=1) (own:=[("sign",2)]) rfl nd rfl rfl (aki rfl rfl rfl rfl) (afg (di (by rfl) hG rG)) (vp (N:=["sheet", "lists", "sign"]) (sc:=bj ad1) (by decide +kernel))
    (λ_ _ _ _ _=>gm (i:=2) nd rfl (Or.inl rfl)) (λ_ _ _ _ _=>aax) (λ_ _ _ _ _=>d8 DC hr rfl gC bu (aj (an4 (K:=K) (pv 0) rfl) (aj (pv 2) aq))))
   (au (ig (su PySem.F.plainAttrs_list PySem.F.slot_list_extend PySem.F.type_list_extend aan (pv 1) (aj (zr (own:=[("sign",2)]) rfl nd (afg (di (by rfl) hS rS)) (vp (N:=["sheet", "lists", "sign"]) (sc:=bj ad1) (by decide +kernel))
    (λ_ _ _ _ _=>gm (i:=2) nd rfl (Or.inl rfl)) (λ_ _ _ _ _=>aax) (λ_ _ _ _ _=>d8 DC hr rfl gC bu (aj (an4 (K:=K) (pv 0) rfl) (aj (pv 2) aq)))) aq)))
   (bh (dj (pv 1)))),?_⟩
  have ts:st.start.length<=1000000:=Nat.le_trans B.t (by decide)
  have tg:st.ground.length<=1000000:=Nat.le_trans B.g (by decide)
  refine⟨zG,rfl,λD hD=>?_⟩
  refine am2 (K:=K) (cs:=[83,88,35]) (ll:=[kindCells r .seat,kindCells r .exit,kindCells r .wall]) (csq:=st.ground) (bd:=g) eG rfl (by decide) hD (λi c l hc hl ns hp hs=>?_) (λc Hc R s' k=>?_) λH1 s1 hmade=>?_
  ·match i,hc,hl with
   | 0,hc,hl=>cases hc;cases hl;exact Hm.aim hof .seat hp hs
   | 1,hc,hl=>cases hc;cases hl;exact Hm.aim hof .exit hp hs
   | 2,hc,hl=>cases hc;cases hl;exact Hm.aim hof .wall hp hs
   | i+3,hc,hl=>simp at hc
  ·exact⟨rfl,_,rfl,sh,CS,dx,_,_,rfl,s' _ _ h1,TS.cl,TS.nGround,rfl,_,rfl,g,c,st.ground,rfl,hGr.same s',tg,λH' L ns hp hs hL hL' s2=>k H' L ns hp hs hL hL' s2⟩
  obtain⟨qs,hq1,hq2⟩:=hmade
  refine⟨_,rfl,.inl ⟨rfl,_,SqL.of hq1⟩,zS,rfl,λD2 hD2=>?_⟩
  refine am2 (K:=K) (cs:=[104,109]) (ll:=[pieceCells r .hunter,pieceCells r .man]) (csq:=st.start) (bd:=st0) eS rfl (by decide) hD2 (λi c l hc hl ns hp hs=>?_) (λc Hc R s' k=>?_) λH2 s2 hmade2=>?_
  ·match i,hc,hl with
   | 0,hc,hl=>cases hc;cases hl;exact Hm.ain hof .hunter hp hs
   | 1,hc,hl=>cases hc;cases hl;exact Hm.ain hof .man hp hs
   | i+2,hc,hl=>simp at hc
  ·exact⟨rfl,_,rfl,sh,CS,dx,_,_,rfl,(s1.trans s') _ _ h1,TS.cl,TS.nStart,rfl,_,rfl,st0,c,st.start,rfl,hSt.same (s1.trans s'),ts,λH' L ns hp hs hL hL' s2=>k H' L ns hp hs hL hL' s2⟩
  obtain⟨qs2,hr1,hr2⟩:=hmade2
  have l1:=je hq2
  have l2:=je hr2
  refine⟨D,D2,_,_,rfl,rfl,s2 _ _ hq1,hr1,by rw[List.length_map,List.length_map,l1,l2];show 3+2<=sizeLine;decide,?_⟩
  refine⟨_,rfl,q _ D hD ⟨qs++qs2,by rw[ak,List.map_append],?_⟩ (ji (s1.trans s2) hD)⟩
  have e5:yj r=[kindCells r .seat,kindCells r .exit,kindCells r .wall]++[pieceCells r .hunter,pieceCells r .man]:=rfl
  rw[e5]
  have k2:Paired (λq l=>q≠D/\(upd H2 D (.lst (qs.map V.ref++qs2.map V.ref))) q=some (.lst (du l))) qs2 [pieceCells r .hunter,pieceCells r .man]:=m9 (λp l z=>by
   have nD:p≠D:=Ne.symm (bx hq1 z.1)
   exact⟨nD,by rw[ao nD];exact z.2.2⟩) hr2
  have k1:Paired (λq l=>q≠D/\(upd H2 D (.lst (qs.map V.ref++qs2.map V.ref))) q=some (.lst (du l))) qs [kindCells r .seat,kindCells r .exit,kindCells r .wall]:=m9 (λp l z=>⟨z.2.1,by rw[ao z.2.1];exact s2 _ _ z.2.2⟩) hq2
  have app:∀{l:List Addr}{m:List (List Nat)},Paired (λq l=>q≠D/\(upd H2 D (.lst (qs.map V.ref++qs2.map V.ref))) q=some (.lst (du l))) l m->Paired (λq l=>q≠D/\(upd H2 D (.lst (qs.map V.ref++qs2.map V.ref))) q=some (.lst (du l))) (l++qs2) (m++[pieceCells r .hunter,pieceCells r .man]):=λ{l m} h=>by
   induction h with
   | nil=>exact k2
   | cons a t ih=>exact .cons a ih
  exact app k1
theorem axq{f C:Addr}(F:Fn K "__init__" "Rules.__init__" ai8 ["self", "text", "name", "facts", "cells", "ground"] f)(T:RlT K C):Def P w K mg base CX0 1 f ["self", "text", "name", "facts", "cells", "ground"] (aq7 C):=by
 refine F.ok0 a1n (λvs H Q E h=>?_) (λcdv A outer s H vs Q E hr h=>?_)
 ·obtain⟨x,dx,t,n,f,c,g,rfl,_⟩:=h
  rfl
 ·obtain⟨x,dx,t,n,f,c,g,rfl,h1,q⟩:=h
  refine⟨_,au (jw (pv 0) (pv 1) rfl) (au (jw (pv 0) (pv 2) rfl) (au (jw (pv 0) (pv 3) rfl) (au (jw (pv 0) (pv 4) rfl) (bh (jw (pv 0) (pv 5) rfl))))),?_⟩
  refine⟨_,rfl,_,rfl,x,C,dx,_,rfl,h1,T.cl,T.nText,by decide,?_⟩
  refine⟨_,rfl,_,rfl,x,C,dx,_,rfl,ak,T.cl,T.nName,by show 1<1000;decide,?_⟩
  refine⟨_,rfl,_,rfl,x,C,dx,_,rfl,ak,T.cl,T.nFacts,by show 2<1000;decide,?_⟩
  refine⟨_,rfl,_,rfl,x,C,dx,_,rfl,ak,T.cl,T.nCells,by show 3<1000;decide,?_⟩
  refine⟨_,rfl,_,rfl,x,C,dx,_,rfl,ak,T.cl,T.nGround,by show 4<1000;decide,?_⟩
  exact q _ ak But.refl.at.at.at.at.at
end
open Hm (Sq Sh jj kj yj yx uz Res)
def anw(q:Sq):List V:=[.int (q.2.1:Int),.str (sgn q.2.2)]
theorem an0{α β γ:Type}{F:α->β->Prop}{G:α->γ->Prop}{f:β->γ}(k:∀a b,F a b->G a (f b)):∀{l:List α}{m:List β},Paired F l m->Paired G l (m.map f)
 | _,_,.nil=>.nil
 | _,_,.cons h t=>.cons (k _ _ h) (an0 k t)
section
variable{P:Program}{w:World}{K:PySem.W.Frag}{mg:Str->Option Value}{base:Heap}
theorem ayx{f CS CR TF:Addr}(F:Fn K "rules_of" "rules_of" afz ["codes"] f)(TS:ShT K CS)(hd:mg "dict" = none)(gS:GD P w K mg base (XC P w) 7 "read_sheet" ["codes"] (aq9 K CS TF))(gC:GD P w K mg base (XC P w) 4 "check_sheet" ["sheet"] (aqn CS TF))
  (gF:GD P w K mg base CX0 2 "facts_of" ["sheet"] (aqr CS)) (gL:GD P w K mg base CX0 2 "lists_of" ["sheet"] (aq1 CS)) (mR:∃fR,Mk K CR fR/\Def P w K mg base CX0 1 fR ["self", "text", "name", "facts", "cells", "ground"] (aq7 CR)) (gR:mg "Rules" = some (.ref CR)) :
  Def P w K mg base (XC P w) 8 f ["codes"] (ake CR TF):=by
 obtain⟨fS,gS,DS⟩:=gS
 obtain⟨fC,gC,DC⟩:=gC
 obtain⟨fF,gF,DF⟩:=gF
 obtain⟨fL,gL,DL⟩:=gL
 obtain⟨fR,mR,DR⟩:=mR
 refine F.okX ap0 (λvs H Q E h=>?_) (λcdv A outer s H vs Q E hr h=>?_)
 ·obtain⟨a,b,rfl,_⟩:=h
  rfl
 ·obtain⟨a,b,rfl,ha,q⟩:=h
  have nd:=ap0.nd
  have hr4:=hr.mono (j:=4) (by decide)
  have hr2:=hr.mono (j:=2) (by decide)
  refine⟨_,au (cz (i:=1) nd rfl (Or.inl rfl) (d8 DS hr rfl gS ir (aj (pv 0) aq)))
   (au (ig (d8 DC hr4 rfl gC ir (aj (pv 1) aq)))
   (au (cz (i:=2) nd rfl (Or.inl rfl) (adp (atk rfl) (by rfl) hd PyProof.Rows.boot_dict (aj (zr (own:=[("place",3),("cell",4),("sign",5)]) rfl nd (aas (dw (pv 1) rfl)) (vp (N:=["codes", "sheet", "ground", "place", "cell", "sign"]) (sc:=bj afz) (by decide +kernel))
    (λ_ _ _ _ _=>adv (K:=K) (n:=3) rfl (jk (gm (i:=3) nd rfl (Or.inl rfl)) (jk (gm (i:=4) nd rfl (Or.inl rfl)) (jk (gm (i:=5) nd rfl (Or.inl rfl)) xu)))) (λ_ _ _ _ _=>aax)
    (λ_ _ _ _ _=>ur (aj (pv 4) (aj (pv 5) aq)))) aq)))
   (bh (dj (afa mR DR hr2 rfl gR bu (aj (pv 0) (aj (dw (pv 1) rfl) (aj (d8 DF hr2 rfl gF bu (aj (pv 1) aq)) (aj (d8 DL hr2 rfl gL bu (aj (pv 1) aq)) (aj (pv 2) aq)))))))))),?_⟩
  have rel:=Hm.aqb b
  refine⟨_,rfl,a,b,rfl,ha,?_⟩
  cases e1:yx b with
  | error p =>
   rw[e1]at rel
   have ej:Tafl.judge b=.error (1,p):=by
    cases e2:Tafl.grammar b with
    | ok r=>rw[e2]at rel;exact rel.elim
    | error p' =>
     rw[e2]at rel
     have rel:p=p':=rel
     subst rel
     unfold Tafl.judge
     rw[e2]
   rw[ej]at q
   exact q
  | ok st =>
   rw[e1]at rel
   obtain⟨r,eg,hof⟩:∃r,Tafl.grammar b=.ok r/\kj st r:=by
    cases e2:Tafl.grammar b with
    | ok r=>rw[e2]at rel;exact⟨r,rfl,rel⟩
    | error p'=>rw[e2]at rel;exact rel.elim
   have hlen:=Hm.a2q hof
   have B:ShB st:=⟨by omega,by omega,hlen.2.2.1,hlen.2.2.2⟩
   intro H1 sh hsh0 hsh s1
   refine⟨_,rfl,sh,st,b.length,rfl,hsh,B,?_⟩
   have ej:=Hm.avu eg hof
   by_cases hf:uz st b.length=[]
   ·rw[if_pos hf]at ej ⊢
    rw[ej]at q
    intro H2 s2
    have s02:=s1.trans s2
    have hsh2:=hsh.same s2
    have hsh2':=hsh2
    obtain⟨dx,nm,g,st0,m,h1,h2,hG,hS,hM⟩:=hsh2'
    have hG':=hG
    obtain⟨pg,hg1,hg2⟩:=hG'
    refine⟨_,rfl,sh,CS,dx,_,_,rfl,h1,TS.cl,TS.nGround,rfl,g,rfl,⟨_,SqL.of hg1⟩,λD hD=>?_⟩
    have ngD:g≠D:=bx hg1 hD
    refine aez (K:=K) (a:=g) (xs:=pg.map V.ref) (λi Hc=>fu anw Hc D (st.ground.take i)/\az H2 Hc) ⟨.nil ak,dz (az.refl H2) hD⟩ (λi Hc _ e=>SqL.of (e.2 _ _ hg1)) ?_ ?_
    ·rintro i x Hc hx ⟨hT,s'⟩
     rw[List.getElem?_map]at hx
     obtain⟨p,hp,rfl⟩:=Option.map_eq_some_iff.mp hx
     obtain⟨c,hc,hpc⟩:=ph hg2 hp
     obtain⟨ps,p1,p2⟩:=hT
     have hl2:=je p2
     rw[List.length_take]at hl2
     have tk:st.ground.take (i+1)=st.ground.take i++[c]:=by rw[List.take_succ,hc];rfl
     refine⟨p,_,rfl,SqT.of (s' _ _ hpc),rfl,_,_,rfl,_,_,rfl,_,_,rfl,rfl,rfl,_,rfl,_,rfl,by show 2<=sizeLine;decide,λt ht=>⟨ps.map V.ref,by rw[ao (bx p1 ht)];exact p1,by rw[List.length_map,sizeLine_eq];omega,?_,?_⟩⟩
     ·rw[tk]
      exact fu.snoc (enc:=anw) (c:=c) p1 p2 ht
     ·exact ji (dz s' ht) hD
    ·rintro Hc ⟨hT,s'⟩
     rw[List.length_map,je hg2,List.take_length]at hT
     obtain⟨ps,p1,p2⟩:=hT
     have pk:Paired (λp (kv:Key×V)=>SqT K Hc p [kV kv.1,kv.2]) ps (st.ground.map λq:Sq=>((Sum.inl (q.2.1:Int):Key),V.str (sgn q.2.2))):=an0 (G:=λp (kv:Key×V)=>SqT K Hc p [kV kv.1,kv.2]) (f:=λq:Sq=>((Sum.inl (q.2.1:Int):Key),V.str (sgn q.2.2))) (λp c z=>SqT.of z) p2
     refine⟨D,ps,st.ground.map λq:Sq=>((Sum.inl (q.2.1:Int):Key),V.str (sgn q.2.2)),rfl,SqL.of p1,pk,λd hd=>?_⟩
     have em:yp [] (st.ground.map λq=>((Sum.inl (q.2.1:Int):Key),V.str (sgn q.2.2)))=o6 r:=by
      rw[anh,List.nil_append,Hm.aa2 hof]
      ·rfl
      ·rw[List.nil_append,List.map_map,Hm.aa2 hof]
       have:=Hm.alo hof.w5.2
       rw[show((λx:Key×V=>x.1)∘λq:Sq=>((Sum.inl (q.2.1:Int):Key),V.str (sgn q.2.2)))=(λn:Nat=>(Sum.inl (n:Int):Key))∘(λq:Sq=>q.2.1) from rfl,<-List.map_map]
       refine List.Pairwise.map _ (λa b hab z=>hab ?_) this
       injection z with z
       omega
     rw[em]
     have s3:=dz (o:=.dK (o6 r)) s' hd
     have s03:=s02.trans s3
     have hj:Tafl.judge b=.ok r:=ej
     refine⟨_,rfl,_,rfl,sh,CS,dx,_,_,rfl,s3 _ _ h1,TS.cl,TS.nName,rfl,_,rfl,sh,st,b.length,r,b,rfl,hsh2.same s3,B,hof,hj,λH4 Lf _ hLf s4=>?_⟩
     refine⟨_,rfl,sh,st,b.length,r,rfl,(hsh2.same s3).same s4,B,hof,λH5 Lc _ hLc s5=>?_⟩
     refine⟨_,rfl,λx dx6 nx ndx ndxx=>⟨x,dx6,_,_,_,_,_,rfl,ak,λH6 hx6 k6=>⟨rfl,?_⟩⟩⟩
     have s6:az H5 H6:=az.made nx ndx k6
     have s35:=s4.trans s5
     have s36:=s35.trans s6
     have s06:=s03.trans s36
     refine q H6 x ((s03.trans s35).free nx) ⟨dx6,a,nm,Lf,Lc,d,hx6,s06 _ _ ha,?_,s6 _ _ (s5 _ _ hLf),hLc.same s6,s36 _ _ ak⟩ s06
     rw[<-hof.name]
     exact s36 _ _ (s3 _ _ h2)
   ·rw[if_neg hf]at ej ⊢
    rw[ej]at q
    exact jx q λH9 g=>s1.trans g
end
open Tafl (Bytes Cur Rules Kind Piece quarters quarter)
open Hm (o4 from_ InB acv ab0)
def af6:Sp:=λvs H Q _=>∃(wd hg t c:Nat),vs=[.int (wd:Int),.int (hg:Int),.int (t:Int),.int (c:Int)]/\c % 13<wd/\c / 13<hg/\∀H',az H H'->Q (.int (o4 wd hg t c:Int)) H'
def arc:Sp:=λvs H Q _=>∃(t u:Int),vs=[.int t,.int u]/\Q (.int (acv t u)) H
def aqi:Sp:=λvs H Q _=>∃t:Int,vs=[.int t]/\Q (.int (ab0 t)) H
def aqu:Sp:=λvs H Q _=>∃(wd hg c:Nat),vs=[.int (wd:Int),.int (hg:Int),.int (c:Int)]/\Q (.bl (decide (c % 13<wd)&&decide (c / 13<hg))) H
def akf:Sp:=λvs H Q _=>∃n:Nat,vs=[.int (n:Int)]/\Q (.bl (TaflRules.isSize n)) H
theorem dLt{i j:Int}{p:Prop}[Decidable p](h:i<j↔p):decide (i<j)=decide p:=decide_eq_decide.mpr h
def asp(H:Hp)(wd hg t c x y:Nat)(k:Nat)(σ:L2.St)(H':Hp):Prop:=∃(sp sd:Addr) (q8:Option V),σ=[some (.int (wd:Int)),some (.int (hg:Int)),some (.int (t:Int)),some (.int (c:Int)),some (.int (x:Int)),some (.int (y:Int)),some (.ref sp),some (.ref sd),q8]/\az H H' /\
 H' sp=some (.tup [.int ((quarters k (from_ t wd hg x y)).2.2.1:Int),.int ((quarters k (from_ t wd hg x y)).2.2.2:Int)])/\H' sd=some (.tup [.int ((quarters k (from_ t wd hg x y)).1:Int),.int ((quarters k (from_ t wd hg x y)).2.1:Int)])
theorem a3b{H:Hp}{σ:L2.St}{Q:VK}{wd t x y:Nat}(h0:σ[0]? = some (some (.int (wd:Int))))(h2:σ[2]? = some (some (.int (t:Int))))(h4:σ[4]? = some (some (.int (x:Int))))(h5:σ[5]? = some (some (.int (y:Int))))(hx:x<wd)
  (go:∀H1 sp,az H H1->H1 sp=some (.tup [.int ((if 4<=t then wd-1-x else x:Nat):Int),.int (y:Int)])->Q (.ref sp) H1) :
  tIf (agc (tOp (rI0 λi j=>V.bl (decide (j<=i))) (jc 2) (tC (V.int 4)))) (aec (lu (tOp (rI0 λi j=>V.int (i-j)) (tOp (rI0 λi j=>V.int (i-j)) (jc 0) (tC (V.int 1))) (jc 4)) (lu (jc 5) jb))) (aec (lu (jc 4) (lu (jc 5) jb))) σ H Q:=by
 refine⟨_,h2,_,_,rfl,rfl,_,rfl,?_⟩
 refine nj (λhc=>?_) λhc=>?_
 ·have hc:(4:Int)<=(t:Int):=of_decide_eq_true hc
  refine⟨_,h0,_,_,rfl,rfl,_,h4,_,_,rfl,rfl,_,h5,by show 2<=sizeLine;decide,λsp hsp=>?_⟩
  refine go _ sp (dz (az.refl H) hsp) ?_
  rw[ak,if_pos (by omega)]
  show some (HO.tup [V.int ((wd:Int)-1-(x:Int)),_])=some (HO.tup [V.int ((wd-1-x:Nat):Int),_])
  rw[show(wd:Int)-1-(x:Int)=((wd-1-x:Nat):Int) by omega]
 ·have hc:¬(4:Int)<=(t:Int):=λz=>hc (decide_eq_true z)
  refine⟨_,h4,_,h5,by show 2<=sizeLine;decide,λsp hsp=>?_⟩
  refine go _ sp (dz (az.refl H) hsp) ?_
  rw[ak,if_neg (by omega)]
section
variable{P:Program}{w:World}{K:PySem.W.Frag}{mg:Str->Option Value}{base:Heap}
theorem azb{f:Addr}(F:Fn K "turned" "turned" aj5 ["wide", "high", "turn", "cell"] f)(hR:fc mg "ROW" 13)(h4:fc mg "QUARTERS" 4)(hrg:mg "range" = none):Def P w K mg base CX0 1 f ["wide", "high", "turn", "cell"] af6:=by
 obtain⟨uR,hR,rR⟩:=hR
 obtain⟨u4,h4,r4⟩:=h4
 refine F.ok0 ap2 (λvs H Q E h=>?_) (λcdv A outer s H vs Q E hr h=>?_)
 ·obtain⟨wd,hg,t,c,rfl,_⟩:=h
  rfl
 ·obtain⟨wd,hg,t,c,rfl,hx,hy,q⟩:=h
  have nd:=ap2.nd
  refine⟨_,au (cz (i:=4) nd rfl (Or.inl rfl) (gw abg (pv 3) (di (by rfl) hR rR)))
   (au (cz (i:=5) nd rfl (Or.inl rfl) (gw ah5 (pv 3) (di (by rfl) hR rR)))
   (au (cz (i:=6) nd rfl (Or.inl rfl) (adq (iy xr (pv 2) (di (by rfl) h4 r4) (gf _)) (ur (aj (gw aar (gw aar (pv 0) dm) (pv 4)) (aj (pv 5) aq))) (ur (aj (pv 4) (aj (pv 5) aq)))))
   (au (cz (i:=7) nd rfl (Or.inl rfl) (ur (aj (pv 0) (aj (pv 1) aq))))
   (au (t7 PassesOwn.never rfl (afe (by rfl) hrg (aj (gw abg (pv 2) (di (by rfl) h4 r4)) aq)) (gm (i:=8) nd rfl (Or.inl rfl))
    (au (cz (i:=6) nd rfl (Or.inl rfl) (ur (aj (gk o7 (pv 6) dm (λ_ _=>rfl)) (aj (gw aar (gw aar (gk o7 (pv 7) dm (λ_ _=>rfl)) dm) (gk o7 (pv 6) dm (λ_ _=>rfl))) aq))))
    (bh (cz (i:=7) nd rfl (Or.inl rfl) (ur (aj (gk o7 (pv 7) dm (λ_ _=>rfl)) (aj (gk o7 (pv 7) dm (λ_ _=>rfl)) aq)))))))
   (bh (dj (gw yr (gw ae9 (di (by rfl) hR rR) (gk o7 (pv 6) dm (λ_ _=>rfl))) (gk o7 (pv 6) dm (λ_ _=>rfl))))))))),?_⟩
  refine⟨_,rfl,_,_,rfl,rfl,by show(0:Int)<13;decide,_,rfl,_,_,rfl,rfl,⟨by decide,by decide⟩,?_⟩
  have ex:((c:Int) % 13)=((c % 13:Nat):Int):=by omega
  have ey:((c:Int) / 13)=((c / 13:Nat):Int):=by omega
  dsimp only
  rw[ex,ey]
  generalize hgx:c % 13=x at hx ⊢
  generalize hgy:c / 13=y at hy ⊢
  have fin:=Hm.amg (t:=t) hx hy
  refine a3b (wd:=wd) (t:=t) (x:=x) (y:=y) rfl rfl rfl rfl hx λH1 sp s1 hsp=>?_
  refine⟨_,rfl,_,rfl,by show 2<=sizeLine;decide,λsd hsd=>?_⟩
  have s2:=dz (o:=.tup [.int (wd:Int),.int (hg:Int)]) s1 hsd
  refine⟨_,rfl,_,_,rfl,rfl,by show(0:Int)<4;decide,_,rfl,by omega,by omega,?_⟩
  have et:((t:Int) % 4).toNat=t % 4:=by omega
  rw[et]
  refine ag6 (lo:=0) (asp H wd hg t c x y) ⟨sp,sd,none,rfl,s2,by rw[ao (bx hsp hsd)];exact hsp,ak⟩ ?_ ?_
  ·rintro k σ H2 hk ⟨sp,sd,q8,rfl,s',h6,h7⟩
   have inb:=fin.quarters k
   have e1:=Hm.afn k (from_ t wd hg x y)
   generalize quarters k (from_ t wd hg x y)=S at h6 h7 inb e1
   refine⟨_,rfl,sp,_,_,_,rfl,rfl,SqT.of h6,gr (j:=1) rfl,_,rfl,sd,_,_,_,rfl,rfl,SqT.of h7,gr (j:=0) rfl,_,_,rfl,rfl,_,rfl,sp,_,_,_,rfl,rfl,SqT.of h6,gr (j:=0) rfl,_,_,rfl,rfl,by show 2<=sizeLine;decide,λsp2 hsp2=>?_⟩
   have s3:=dz (o:=.tup [.int (S.2.2.2:Int),.int ((S.1:Int)-1-(S.2.2.1:Int))]) (az.refl H2) hsp2
   refine⟨_,rfl,sd,_,_,_,rfl,rfl,SqT.of (s3 _ _ h7),gr (j:=1) rfl,_,rfl,sd,_,_,_,rfl,rfl,SqT.of (s3 _ _ h7),gr (j:=0) rfl,by show 2<=sizeLine;decide,λsd2 hsd2=>?_⟩
   refine⟨sp2,sd2,_,rfl,s'.trans (dz s3 hsd2),?_,?_⟩
   ·rw[ao (bx ak hsd2),ak,e1]
    show some (HO.tup [_,V.int ((S.1:Int)-1-(S.2.2.1:Int))])=some (HO.tup [_,V.int ((S.1-1-S.2.2.1:Nat):Int)])
    have:=inb.1
    rw[show(S.1:Int)-1-(S.2.2.1:Int)=((S.1-1-S.2.2.1:Nat):Int) by omega]
    rfl
   ·rw[ak,e1]
    rfl
  ·rintro σ H2 ⟨sp,sd,q8,rfl,s',h6,h7⟩
   refine⟨_,rfl,sp,_,_,_,rfl,rfl,SqT.of h6,gr (j:=1) rfl,_,_,rfl,rfl,.inl ⟨by decide,by decide⟩,_,rfl,sp,_,_,_,rfl,rfl,SqT.of h6,gr (j:=0) rfl,_,_,rfl,rfl,?_⟩
   have:=q H2 s'
   unfold o4 at this
   rw[hgx,hgy,Hm.age]at this
   have e:((Tafl.cellOf (quarters (t % 4) (from_ t wd hg x y)).2.2.1 (quarters (t % 4) (from_ t wd hg x y)).2.2.2:Nat):Int)=13*((quarters (t % 4) (from_ t wd hg x y)).2.2.2:Int)+((quarters (t % 4) (from_ t wd hg x y)).2.2.1:Int):=by
    show((13*_+_:Nat):Int)=_
    omega
   rw[e]at this
   exact this
theorem aya{f:Addr}(F:Fn K "combined" "combined" ajo ["turn", "later"] f)(h4:fc mg "QUARTERS" 4):Def P w K mg base CX0 1 f ["turn", "later"] arc:=by
 obtain⟨u4,h4,r4⟩:=h4
 refine F.ok0 apm (λvs H Q E h=>?_) (λcdv A outer s H vs Q E hr h=>?_)
 ·obtain⟨t,u,rfl,_⟩:=h
  rfl
 ·obtain⟨t,u,rfl,q⟩:=h
  have nd:=apm.nd
  refine⟨_,au (cz (i:=2) nd rfl (Or.inl rfl) (adq (iy xr (pv 1) (di (by rfl) h4 r4) (gf _)) (gw aar (pv 1) (pv 0)) (gw yr (pv 1) (pv 0))))
   (au (cz (i:=3) nd rfl (Or.inl rfl) (tu aaq (tu xr (pv 0) (di (by rfl) h4 r4) (gf _)) (tu xr (pv 1) (di (by rfl) h4 r4) (gf _)) (gf _)))
   (bh (dj (gw yr (gw abg (pv 2) (di (by rfl) h4 r4)) (adq (uc (pv 3)) (di (by rfl) h4 r4) dm))))),?_⟩
  have eb:(!decide (V.bl (decide (4<=t))=V.bl (decide (4<=u))))=(decide (4<=t) != decide (4<=u)):=by
   cases decide (4<=t)<;>cases decide (4<=u)<;>rfl
  unfold acv at q
  refine⟨_,rfl,_,_,rfl,rfl,_,rfl,?_⟩
  refine nj (λhc=>?_) λhc=>?_
  ·have hc:4<=u:=of_decide_eq_true hc
   rw[if_pos hc]at q
   refine⟨_,rfl,_,rfl,_,_,rfl,rfl,?_⟩
   refine⟨_,rfl,_,_,rfl,rfl,_,rfl,_,_,rfl,rfl,rfl,?_⟩
   refine⟨_,rfl,_,_,rfl,rfl,by show(0:Int)<4;decide,_,rfl,_,rfl,?_⟩
   dsimp only
   rw[eb]
   refine nj (λhc=>?_) λhc=>?_
   ·rw[if_pos hc]at q
    exact⟨_,_,rfl,rfl,q⟩
   ·rw[if_neg hc]at q
    exact⟨_,_,rfl,rfl,q⟩
  ·have hc:¬4<=u:=λz=>hc (decide_eq_true z)
   rw[if_neg hc]at q
   refine⟨_,rfl,_,rfl,_,_,rfl,rfl,?_⟩
   refine⟨_,rfl,_,_,rfl,rfl,_,rfl,_,_,rfl,rfl,rfl,?_⟩
   refine⟨_,rfl,_,_,rfl,rfl,by show(0:Int)<4;decide,_,rfl,_,rfl,?_⟩
   dsimp only
   rw[eb]
   refine nj (λhc=>?_) λhc=>?_
   ·rw[if_pos hc]at q
    exact⟨_,_,rfl,rfl,q⟩
   ·rw[if_neg hc]at q
    exact⟨_,_,rfl,rfl,q⟩
theorem azc{f:Addr}(F:Fn K "undoing" "undoing" aj6 ["turn"] f)(h4:fc mg "QUARTERS" 4):Def P w K mg base CX0 1 f ["turn"] aqi:=by
 obtain⟨u4,h4,r4⟩:=h4
 refine F.ok0 a2c (λvs H Q E h=>?_) (λcdv A outer s H vs Q E hr h=>?_)
 ·obtain⟨t,rfl,_⟩:=h
  rfl
 ·obtain⟨t,rfl,q⟩:=h
  refine⟨_,bh (dj (adq (iy xr (pv 0) (di (by rfl) h4 r4) (gf _)) (pv 0) (gw abg (aci acw (pv 0)) (di (by rfl) h4 r4)))),?_⟩
  unfold ab0 at q
  refine⟨_,rfl,_,_,rfl,rfl,_,rfl,?_⟩
  refine nj (λhc=>?_) λhc=>?_
  ·have hc:t>=4:=of_decide_eq_true hc
   rw[if_pos hc]at q
   exact⟨_,rfl,q⟩
  ·have hc:¬t>=4:=λz=>hc (decide_eq_true z)
   rw[if_neg hc]at q
   exact⟨_,rfl,_,rfl,_,_,rfl,rfl,by show(0:Int)<4;decide,q⟩
theorem ayg{f:Addr}(F:Fn K "has_cell" "has_cell" ajs ["wide", "high", "cell"] f)(hR:fc mg "ROW" 13):Def P w K mg base CX0 1 f ["wide", "high", "cell"] aqu:=by
 obtain⟨uR,hR,rR⟩:=hR
 refine F.ok0 a1v (λvs H Q E h=>?_) (λcdv A outer s H vs Q E hr h=>?_)
 ·obtain⟨wd,hg,c,rfl,_⟩:=h
  rfl
 ·obtain⟨wd,hg,c,rfl,q⟩:=h
  refine⟨_,bh (dj (azs (tu zq (gw abg (pv 2) (di (by rfl) hR rR)) (pv 0) (gf _)) (afc (tu zq (gw ah5 (pv 2) (di (by rfl) hR rR)) (pv 1) (gf _))))),?_⟩
  refine⟨_,rfl,_,_,rfl,rfl,by show(0:Int)<13;decide,_,rfl,_,_,rfl,rfl,_,rfl,?_⟩
  dsimp only
  rw[dLt (p:=c % 13<wd) (by omega)]
  cases e:decide (c % 13<wd)with
  | false=>rw[e]at q;exact gh q
  | true =>
   rw[e]at q
   refine d9 ⟨_,rfl,_,_,rfl,rfl,⟨by decide,by decide⟩,_,rfl,_,_,rfl,rfl,?_⟩
   dsimp only
   rw[dLt (p:=c / 13<hg) (by omega)]
   exact q
theorem ayl{f:Addr}(F:Fn K "is_size" "is_size" ajv ["number"] f)(h5:fc mg "LEAST_SIZE" 5)(hZ:agj K mg "SIZES" Hm.SIZES)(hl:mg "len" = none):Def P w K mg base CX0 1 f ["number"] akf:=by
 obtain⟨u5,h5,r5⟩:=h5
 obtain⟨aZ,hZ,a',zs,ea,wZ,eZ⟩:=hZ
 cases ea
 refine F.ok0 a1y (λvs H Q E h=>?_) (λcdv A outer s H vs Q E hr h=>?_)
 ·obtain⟨n,rfl,_⟩:=h
  rfl
 ·obtain⟨n,rfl,q⟩:=h
  refine⟨_,bh (dj (afb abf zq (di (by rfl) h5 r5) (pv 0) (gw yr (di (by rfl) h5 r5) (jg xn (by rfl) hl PySem.boot_len (aj (di (by rfl) hZ (aay aZ)) aq))))),?_⟩
  have el:(zs.map V.str).length=9:=by
   have:=congrArg List.length eZ
   rw[List.length_map,List.length_map]at this
   rw[List.length_map,this]
   rfl
  unfold TaflRules.isSize at q
  refine⟨_,rfl,_,_,rfl,rfl,_,rfl,?_⟩
  rw[show decide ((5:Int)<=(n:Int))=decide (5<=n) from decide_eq_decide.mpr (by omega)]
  cases e:decide (5<=n)with
  | false=>rw[e]at q;exact gh q
  | true =>
   rw[e]at q
   refine d9 ⟨aZ,_,rfl,.inr (wZ _),_,_,rfl,rfl,_,_,rfl,rfl,?_⟩
   dsimp only
   rw[el,dLt (p:=n<=13) (by omega)]
   exact q
end
open Tafl (Bytes Cur Rules Kind Piece kindByte)
open Hm (o4 kindAt)
theorem ar7{κ:Type}[DecidableEq κ]:∀{kvs:List (κ×V)}{k:κ}{v:V},(kvs.map (·.1)).Nodup->(k,v)∈kvs->jd kvs k=some v
 | p::kvs,k,v,nd,h=>by
  rw[List.map_cons,List.nodup_cons]at nd
  rcases List.mem_cons.mp h with e | h
  ·subst e
   exact xf rfl
  ·have:¬p.1=k:=λe=>nd.1 (List.mem_map.mpr ⟨(k,v),h,e.symm⟩)
   rw[w6 this]
   exact ar7 nd.2 h
theorem ahb(r:Rules):o6 r=r.asWritten.map λp=>((Sum.inl ((Tafl.cellOf p.1 p.2:Nat):Int):Key),V.str (sgn (kindByte (r.kind p.1 p.2)))):=by
 unfold o6 Hm.sqG
 rw[List.map_map]
 rfl
theorem au4{r:Rules}(hw:r.wide<=13):((o6 r).map (·.1)).Nodup:=by
 have:=Hm.alo hw
 unfold o6
 rw[List.map_map,show((λx:Key×V=>x.1)∘λq:Hm.Sq=>((Sum.inl (q.2.1:Int):Key),V.str (sgn q.2.2)))=(λn:Nat=>(Sum.inl (n:Int):Key))∘(λq:Hm.Sq=>q.2.1) from rfl,<-List.map_map]
 refine List.Pairwise.map _ (λa b hab z=>hab ?_) this
 injection z with z
 omega
theorem aml{r:Rules}(hw:r.wide<=13){c:Nat}(hx:c % 13<r.wide)(hy:c / 13<r.high):jd (o6 r) (Sum.inl (c:Int))=some (V.str (sgn (kindByte (kindAt r c)))):=by
 refine ar7 (au4 hw) ?_
 rw[ahb]
 refine List.mem_map.mpr ⟨(c % 13,c / 13),Hm.ahu.mpr ⟨hx,hy⟩,?_⟩
 have e:Tafl.cellOf (c % 13) (c / 13)=c:=by show 13*(c / 13)+c % 13=c;omega
 show((Sum.inl ((Tafl.cellOf (c % 13) (c / 13):Nat):Int):Key),V.str (sgn (kindByte (r.kind (c % 13) (c / 13)))))=_
 rw[e]
 rfl
structure agm(r:Rules):Prop where
 w5:5<=r.wide/\r.wide<=13
 h5:5<=r.high/\r.high<=13
def aqs:Sp:=λvs H Q _=>∃(g:Addr) (t:Nat) (r:Rules),vs=[.int (r.wide:Int),.int (r.high:Int),.ref g,.int (t:Int)]/\H g=some (.dK (o6 r))/\agm r/\∀H',az H H'->Q (.bl (r.fits t)) H'
def aqt:Sp:=λvs H Q _=>∃(g:Addr) (r:Rules),vs=[.int (r.wide:Int),.int (r.high:Int),.ref g]/\H g=some (.dK (o6 r))/\agm r/\∀H' L,H L=none->H' L=some (.lst (du r.turns))->az H H'->Q (.ref L) H'
section
variable{P:Program}{w:World}{K:PySem.W.Frag}{mg:Str->Option Value}{base:Heap}
theorem aye{f:Addr}(F:Fn K "fits" "fits" ajr ["wide", "high", "ground", "turn"] f)(gT:GD P w K mg base CX0 1 "turned" ["wide", "high", "turn", "cell"] af6):Def P w K mg base CX0 2 f ["wide", "high", "ground", "turn"] aqs:=by
 obtain⟨fT,gT,DT⟩:=gT
 refine F.ok0 apq (λvs H Q E h=>?_) (λcdv A outer s H vs Q E hr h=>?_)
 ·obtain⟨g,t,r,rfl,_⟩:=h
  rfl
 ·obtain⟨g,t,r,rfl,hg,ok,q⟩:=h
  have nd:=apq.nd
  refine⟨_,au (jl (PW.pt (afl (iy aaq (pv 0) (pv 1) (gf _)) (afm (iy uq (gw abg (pv 3) dm) dm (gf _))))) (bh (dj ach)) jq)
   (au (a0k (t7 PassesOwn.never rfl (a0d (pv 2)) (gm (i:=4) nd rfl (Or.inl rfl))
    (bh (jl (iy aaq (an3 (ab3 hr) (pv 2) (d8 DT hr rfl gT bu (aj (pv 0) (aj (pv 1) (aj (pv 3) (aj (pv 4) aq))))) (λ_ _=>rfl)) (an3 (ab3 hr) (pv 2) (pv 4) (λ_ _=>rfl)) (gf _)) (bh (dj ach)) jq))))
   (bh (dj ach))),?_⟩
  have efit:=Hm.aut r t ok.w5 ok.h5.1
  have loop:¬(r.wide≠r.high/\t % 2=1)->aeb (arl (ark (amr (jc 2)) (ade 4) (af9 (agc (tOp rNe (akj (jc 2) (zx af6 [] E0 (lu (jc 0) (lu (jc 1) (lu (jc 3) (lu (jc 4) jb)))))) (akj (jc 2) (jc 4)))) (aea (tC (.bl false))) agb))) (aea (tC (.bl true)))
    {nx:=λ_ H'=>Q .non H',rt:=Q} [some (.int (r.wide:Int)),some (.int (r.high:Int)),some (.ref g),some (.int (t:Int)),none] H:=λhno=>by
   rw[if_neg hno]at efit
   have back:∀{od:Obj}{H':Hp},az (upd H g (.frz od (.dK (o6 r)))) H'->az H (upd H' g (.dK (o6 r))):=λ{od H'} s' b o hb=>by
    by_cases hbg:b=g
    ·subst hbg
     rw[ak,<-hb,hg]
    ·rw[ao hbg]
     exact s' b o (by rw[ao hbg];exact hb)
   refine⟨g,_,hg,trivial,λod=>⟨_,rfl,g,od,rfl,.inl ⟨o6 r,ak,?_⟩⟩⟩
   refine ag5 (o6 r).length (λi σ H'=>∃c4:Option V,σ=[some (.int (r.wide:Int)),some (.int (r.high:Int)),some (.ref g),some (.int (t:Int)),c4]/\az (upd H g (.frz od (.dK (o6 r)))) H' /\
    (r.asWritten.take i).all (λp=>kindByte (kindAt r (o4 r.wide r.high t (Tafl.cellOf p.1 p.2)))==kindByte (kindAt r (Tafl.cellOf p.1 p.2)))=true) ⟨none,rfl,az.refl _,rfl⟩ ?_ ?_
   ·rintro i σ H' hi ⟨c4,rfl,s',hall⟩
    refine⟨⟨s' _ _ ak,hi⟩,?_⟩
    rintro x H2 ⟨rfl,k,v,hk,rfl⟩
    have hkw:=hk
    rw[ahb,List.getElem?_map]at hk
    obtain⟨p,hp,ep⟩:=Option.map_eq_some_iff.mp hk
    cases ep
    have hpm:=Hm.ahu.mp (List.mem_of_getElem? hp)
    have tk:r.asWritten.take (i+1)=r.asWritten.take i++[p]:=by rw[List.take_succ,hp];rfl
    have w13:=ok.w5.2
    have ex:Tafl.cellOf p.1 p.2 % 13=p.1:=by show(13*p.2+p.1) % 13=p.1;omega
    have ey:Tafl.cellOf p.1 p.2 / 13=p.2:=by show(13*p.2+p.1) / 13=p.2;omega
    have hin:=Hm.a4f (t:=t) (c:=Tafl.cellOf p.1 p.2) ok.w5.2 hno (by rw[ex];exact hpm.1) (by rw[ey];exact hpm.2)
    have v1:=aml ok.w5.2 hin.1 hin.2
    have v2:=aml (r:=r) (c:=Tafl.cellOf p.1 p.2) ok.w5.2 (by rw[ex];exact hpm.1) (by rw[ey];exact hpm.2)
    refine⟨_,rfl,_,rfl,_,rfl,_,rfl,_,rfl,r.wide,r.high,t,Tafl.cellOf p.1 p.2,rfl,by rw[ex];exact hpm.1,by rw[ey];exact hpm.2,λH3 s3=>?_⟩
    have s03:=s'.trans s3
    refine⟨g,_,rfl,.inl ⟨o6 r,Sum.inl ((o4 r.wide r.high t (Tafl.cellOf p.1 p.2):Nat):Int),.inr ⟨od,s03 _ _ ak⟩,rfl,v1.symm⟩,_,rfl,_,rfl,g,_,rfl,.inl ⟨o6 r,Sum.inl ((Tafl.cellOf p.1 p.2:Nat):Int),.inr ⟨od,s03 _ _ ak⟩,rfl,v2.symm⟩,rfl,_,rfl,?_⟩
    rw[yw]
    cases eb:(kindByte (kindAt r (o4 r.wide r.high t (Tafl.cellOf p.1 p.2)))==kindByte (kindAt r (Tafl.cellOf p.1 p.2)))with
    | false =>
     refine d9 ⟨s03 _ _ ak,?_⟩
     have ef:r.fits t=false:=by
      rw[efit,List.all_eq_false]
      exact⟨p,List.mem_of_getElem? hp,by rw[eb];decide⟩
     rw[ef]at q
     exact q _ (back s03)
    | true =>
     refine gh ⟨_,rfl,s03,?_⟩
     rw[tk,List.all_append,hall,List.all_cons,eb]
     rfl
   ·rintro σ H' ⟨c4,rfl,s',hall⟩
    refine⟨⟨s' _ _ ak,Nat.le_refl _⟩,s' _ _ ak,?_⟩
    have el:(o6 r).length=r.asWritten.length:=by rw[ahb,List.length_map]
    rw[el,List.take_length]at hall
    have ef:r.fits t=true:=by rw[efit];exact hall
    rw[ef]at q
    exact q _ (back s')
  refine⟨_,rfl,_,rfl,rfl,_,rfl,?_⟩
  rw[dV (p:=r.wide=r.high) (by omega)]
  by_cases hwh:r.wide=r.high
  ·rw[decide_eq_true hwh]
   exact gh (gh (loop λz=>z.1 hwh))
  ·rw[decide_eq_false hwh]
   refine d9 ⟨_,rfl,_,_,rfl,rfl,by show(0:Int)<2;decide,rfl,_,rfl,?_⟩
   dsimp only
   rw[dV (p:=t % 2=1) (by omega)]
   by_cases ht:t % 2=1
   ·rw[decide_eq_true ht]
    refine d9 ?_
    rw[if_pos ⟨hwh,ht⟩]at efit
    rw[efit]at q
    exact q H (az.refl H)
   ·rw[decide_eq_false ht]
    exact gh (loop λz=>ht z.2)
theorem ayf{f:Addr}(F:Fn K "fitting_turns" "fitting_turns" afw ["wide", "high", "ground"] f)(gF:GD P w K mg base CX0 2 "fits" ["wide", "high", "ground", "turn"] aqs)(h8:fc mg "TURNS" 8)(hrg:mg "range" = none):
  Def P w K mg base CX0 3 f ["wide", "high", "ground"] aqt:=by
 obtain⟨fF,gF,DF⟩:=gF
 obtain⟨u8,h8,r8⟩:=h8
 refine F.ok0 apr (λvs H Q E h=>?_) (λcdv A outer s H vs Q E hr h=>?_)
 ·obtain⟨g,r,rfl,_⟩:=h
  rfl
 ·obtain⟨g,r,rfl,hg,ok,q⟩:=h
  have nd:=apr.nd
  refine⟨_,bh (dj (zr (own:=[("turn",3)]) rfl nd (afe (by rfl) hrg (aj (di (by rfl) h8 r8) aq)) (vp (N:=["wide", "high", "ground", "turn"]) (sc:=bj afw) (by decide +kernel))
   (λ_ _ _ _ _=>gm (i:=3) nd rfl (Or.inl rfl)) (λ_ _ _ _ _=>afk (uc (d8 DF hr rfl gF bu (aj (pv 0) (aj (pv 1) (aj (pv 2) (aj (pv 3) aq))))))) (λ_ _ _ _ _=>pv 3))),?_⟩
  refine⟨_,rfl,by decide,by decide,λD hD=>?_⟩
  refine awb (n:=8) (lo:=0) (λi Hc=>Hc D=some (.lst (du ((List.range i).filter r.fits)))/\az H Hc) ⟨ak,dz (az.refl H) hD⟩ ?_ ?_
  ·rintro i Hc hi ⟨h1,s'⟩
   have ez:(0:Int)+(i:Int)=(i:Int):=by omega
   rw[ez]
   refine⟨rfl,_,rfl,_,rfl,_,rfl,_,rfl,g,i,r,rfl,s' _ _ hg,ok,λH2 s2=>⟨_,rfl,?_⟩⟩
   have hlen:(du ((List.range i).filter r.fits)).length<=8:=by
    unfold du
    rw[List.length_map]
    have:=List.length_filter_le r.fits (List.range i)
    rw[List.length_range]at this
    omega
   cases ef:r.fits i with
   | true =>
    refine d9 ⟨_,rfl,_,s2 _ _ h1,by rw[sizeLine_eq];omega,?_,ji (s'.trans s2) hD⟩
    rw[ak,List.range_succ,List.filter_append,List.filter_cons,if_pos ef]
    unfold du
    rw[List.map_append]
    rfl
   | false =>
    refine gh ⟨?_,s'.trans s2⟩
    rw[List.range_succ,List.filter_append,List.filter_cons,if_neg (by rw[ef];decide),List.filter_nil,List.append_nil]
    exact s2 _ _ h1
  ·rintro Hc ⟨h1,s'⟩
   exact q Hc D hD h1 s'
end
open Hm (rn n6 Ln)
structure yd(P:Program)(w:World)(K:PySem.W.Frag)(mg:Str->Option Value)(base:Heap)(CX:CXT)(k:Nat)(f:Addr)(ps:List Str)(sp:Sp):Prop where
 out:∃fd,FnU P w K mg base CX k f fd ps sp/\Binds K fd ps []
 kp:PySem.W.keepIn K (.ref f)=true
section
variable{P:Program}{w:World}{K:PySem.W.Frag}{mg:Str->Option Value}{base:Heap}{CX:CXT}{k:Nat}{f:Addr}{N ps:List Str}{sp:Sp}{x qual:Str}{st:Stmt}
theorem yd.d(D:yd P w K mg base CX k f ps sp):Def P w K mg base CX k f ps sp:=let ⟨fd,F,b⟩:=D.out;⟨⟨fd,F.ok,b⟩,D.kp⟩
theorem Fn.okU(F:Fn K x qual st ps f)(S:cu N ps (bj st))(len:∀vs H Q E,sp vs H Q E->vs.length=ps.length)
  (hbody:∀(cdv:Value) (A:Around) (outer:List Env) (s:Shared) (H:Hp) (vs:List V) (Q:VK) (E:XK),j9 k (A.deeper (envOfC qual (bj st) s.heap.objs.size f cdv))->sp vs H Q E ->
   ∃t,PSs (cxU CX P w K mg base N qual (bj st) f cdv A outer s H E) (uh st) t/\t {nx:=λ_ H'=>Q .non H',rt:=Q} (start N vs) H):yd P w K mg base CX (k+1) f ps sp :=
 let ⟨fd,F,b⟩:=F.out;⟨⟨fd,Xc.okU F S len hbody,b⟩,F.kp⟩
end
section
variable{X:Cx}{CX:CXT}{k:Nat}{f C:Addr}{ps:List Str}{sp:Sp}{E:XK}{x m:Str}{p pos apos:Pos}{e o:Expr}{es:List Expr}{t:TA}
theorem azn(D:Def X.prog X.w X.K X.mg X.base CX k f ps sp)(hr:fj k X.A)(hg:Gl X x)(hm:X.mg x=some (.ref f))(hx:Passes CX X E)(hdb:(x==("__debug__" : Str))=false:=by decide):PE X (.Call (.Name x p) [] [] pos) (zx sp [] E jb) :=
 let ⟨_,F,b⟩:=D.out;azu F hr hg hm D.kp b .nil hx hdb
theorem azp{pl:Sem Bool}(hg:Gl X x)(hm:X.mg x=some (.ref C))(c:CM X.K C m f)(D:yd X.prog X.w X.K X.mg X.base CX k f ps sp)(hr:j9 k X.A)(hx:Passes CX X E)(ha:PA X (e::es) t)
  (hdb:(x==("__debug__" : Str))=false:=by decide) (hst:starEach (e::es) X.env=(false,eval e X.env)::starEach es X.env:=by rfl) (hpl:(backTo pos (starEach es X.env)).any (·.1)=false:=by rfl)
  (ht:eval (.Call (.Attribute (.Name x p) m apos) (e::es) [] pos) X.env=(do
   let ov <-eval (.Name x p) X.env
   standAt apos.atName
   let (g,first) <-holding [ov] (getMethod ov m pl)
   callWith pos g first (backTo pos (starEach (e::es) X.env)) (backToKw pos (keywordEach [] X.env))):=by rfl) :
  PE X (.Call (.Attribute (.Name x p) m apos) (e::es) [] pos) (zx sp [] E t) :=
 let ⟨_,F,b⟩:=D.out;azw hg hm c F hr b hx ha hdb hst hpl ht
theorem azr(M:XMk X.K C f)(D:yd X.prog X.w X.K X.mg X.base CX k f ps sp)(hr:j9 (k+1) X.A)(hg:Gl X x)(hm:X.mg x=some (.ref C))(hz:ps.length<=1000)(hx:Passes CX X E)
  (hdb:(x==("__debug__" : Str))=false:=by decide):PE X (.Call (.Name x p) [] [] pos) (wy C sp E jb) :=
 let ⟨_,F,b⟩:=D.out;a0a M F hr hg hm b hz hx hdb
end
section
variable{P:Program}{w:World}{K:PySem.W.Frag}{mg:Str->Option Value}{base:Heap}
theorem axp{f:Addr}(F:Fn K "__init__" "Refusal.__init__" afq ["self", "told"] f):yd P w K mg base CX0 1 f ["self", "told"] (acq K):=by
 refine F.okU ao7 (λvs H Q E h=>?_) (λcdv A outer s H vs Q E hr h=>?_)
 ·obtain⟨e,C,y,rfl,_⟩:=h
  rfl
 ·obtain⟨e,C,y,rfl,he,xa,k⟩:=h
  exact⟨_,bh (aoj (pv 0) (pv 1) rfl),_,rfl,_,rfl,e,C,rfl,he,xa,k⟩
theorem axk{f fR R C:Addr}(F:Fn K "__init__" "NoText.__init__" aiu ["self"] f)(DR:yd P w K mg base CX0 1 fR ["self", "told"] (acq K))(hR:mg "Refusal" = some (.ref R))(cm:CM K R "__init__" fR):
  yd P w K mg base CX0 2 f ["self"] (uv K C 0 λ_=>[.int (-8)]):=by
 refine F.okU a1f (λvs H Q E h=>?_) (λcdv A outer s H vs Q E hr h=>?_)
 ·obtain⟨e,ys,rfl,hl,_⟩:=h
  show ys.length+1=1
  rw[hl]
 ·obtain⟨e,ys,rfl,hl,he,xa,k⟩:=h
  obtain rfl:ys=[]:=List.length_eq_zero_iff.mp hl
  refine⟨_,bh (ig (azp rfl hR cm DR hr bu (aj (pv 0) (aj (ju (aj (aci acw dm) aq)) aq)))),?_⟩
  refine⟨_,rfl,_,rfl,(by show 1<=sizeLine;decide),λl hl=>?_⟩
  have ne:e≠l:=bx he hl
  refine⟨e,C,.ref l,rfl,by rw[ao ne];exact he,xa,λdx hd=>?_⟩
  have nd:dx≠l:=λz=>by rw[z,ak]at hd;cases hd
  exact k dx l hl (by rw[ao nd]at hd;exact hd) nd
theorem axl{f fR R C:Addr}(F:Fn K "__init__" "OutOfRange.__init__" aiv ["self"] f)(DR:Def P w K mg base CX0 1 fR ["self", "told"] (acq K))(hR:mg "Refusal" = some (.ref R))(cm:CM K R "__init__" fR):
  Def P w K mg base CX0 2 f ["self"] (uv K C 0 λ_=>[.int (-1)]):=by
 refine F.ok0 a1g (λvs H Q E h=>?_) (λcdv A outer s H vs Q E hr h=>?_)
 ·obtain⟨e,ys,rfl,hl,_⟩:=h
  show ys.length+1=1
  rw[hl]
 ·obtain⟨e,ys,rfl,hl,he,xa,k⟩:=h
  obtain rfl:ys=[]:=List.length_eq_zero_iff.mp hl
  refine⟨_,bh (ig (ah9 rfl hR cm DR hr bu (aj (pv 0) (aj (ju (aj (aci acw dm) aq)) aq)))),?_⟩
  refine⟨_,rfl,_,rfl,(by show 1<=sizeLine;decide),λl hl=>?_⟩
  have ne:e≠l:=bx he hl
  refine⟨e,C,.ref l,rfl,by rw[ao ne];exact he,xa,λdx hd=>?_⟩
  have nd:dx≠l:=λz=>by rw[z,ak]at hd;cases hd
  exact k dx l hl (by rw[ao nd]at hd;exact hd) nd
theorem axj{f fR R C:Addr}(F:Fn K "__init__" "NoRules.__init__" ait ["self"] f)(DR:Def P w K mg base CX0 1 fR ["self", "told"] (acq K))(hR:mg "Refusal" = some (.ref R))(cm:CM K R "__init__" fR):
  Def P w K mg base CX0 2 f ["self"] (uv K C 0 λ_=>[.int (-3)]):=by
 refine F.ok0 a1e (λvs H Q E h=>?_) (λcdv A outer s H vs Q E hr h=>?_)
 ·obtain⟨e,ys,rfl,hl,_⟩:=h
  show ys.length+1=1
  rw[hl]
 ·obtain⟨e,ys,rfl,hl,he,xa,k⟩:=h
  obtain rfl:ys=[]:=List.length_eq_zero_iff.mp hl
  refine⟨_,bh (ig (ah9 rfl hR cm DR hr bu (aj (pv 0) (aj (ju (aj (aci acw dm) aq)) aq)))),?_⟩
  refine⟨_,rfl,_,rfl,(by show 1<=sizeLine;decide),λl hl=>?_⟩
  have ne:e≠l:=bx he hl
  refine⟨e,C,.ref l,rfl,by rw[ao ne];exact he,xa,λdx hd=>?_⟩
  have nd:dx≠l:=λz=>by rw[z,ak]at hd;cases hd
  exact k dx l hl (by rw[ao nd]at hd;exact hd) nd
end
def aqo(K:PySem.W.Frag):Sp:=λvs H Q _=>vs=[]/\∀H' L (ws:List V),H L=none->H' L=some (.lst ws)->Paired (o9 K) ws n6->az H H'->Q (.ref L) H'
def aqm:Sp:=λvs H Q _=>∃(a:Addr) (f:List Nat),vs=[.ref a]/\H a=some (.lst (du f))/\∀H',az H H'->Q (.bl (rn f)) H'
theorem anx{α β:Type}{F:α->β->Prop}{l2:List α}{m2:List β}(h2:Paired F l2 m2):∀{l:List α}{m:List β},Paired F l m->Paired F (l++l2) (m++m2)
 | _,_,.nil=>h2
 | _,_,.cons a t=>.cons a (anx h2 t)
theorem awf{X:Cx}{K:PySem.W.Frag}(h:X.K=K:=by rfl):vh X (.builtin "len") (λxs H Q=>∃x n,xs=[x]/\agk K x H n/\Q (.int n) H):=h▸ac5
theorem zm(l:List Nat):(du l).length=l.length:=List.length_map ..
theorem ahd(l:List Nat)(i:Nat):(du l)[i]? = l[i]?.map λ(n:Nat)=>V.int (n:Int):=List.getElem?_map ..
theorem ab4{l:List Nat}{i:Nat}(h:i<l.length):(du l)[i]? = some (V.int ((l.getD i 0:Nat):Int)):=by
 rw[ahd,List.getElem?_eq_getElem h]
 simp[List.getD,h]
section
variable{P:Program}{w:World}{K:PySem.W.Frag}{mg:Str->Option Value}{base:Heap}
theorem axs{f:Addr}(F:Fn K "all_choices" "all_choices" ajb [] f)(hL:aee K mg Hm.LINES):Def P w K mg base CX0 1 f [] (aqo K):=by
 obtain⟨aL,vsL,mL,hvs,hpl⟩:=hL
 have hlen:=je hpl
 refine F.ok0 ao8 (λvs H Q E h=>?_) (λcdv A outer s H vs Q E hr h=>?_)
 ·obtain⟨rfl,_⟩:=h
  rfl
 ·obtain⟨rfl,q⟩:=h
  have nd:=ao8.nd
  refine⟨_,au (cz (i:=0) nd rfl (Or.inl rfl) (ju aq))
   (au (t7 PassesOwn.never rfl (adx (di (by rfl) mL (aay aL))) (abi rfl (jk (gm (i:=1) nd rfl (Or.inl rfl)) (jk (gm (i:=2) nd rfl (Or.inl rfl)) xu)))
    (bh (ig (su PySem.F.plainAttrs_list PySem.F.slot_list_extend PySem.F.type_list_extend aw1 (pv 0) (aj (pv 2) aq)))))
   (bh (dj (pv 0)))),?_⟩
  refine⟨Nat.zero_le _,λL hLn=>⟨aL,rfl,⟨_,hvs _⟩,?_⟩⟩
  refine adb (K:=K) (a:=aL) (xs:=vsL) (λi σ H'=>∃(v1 v2:Option V) (ws:List V),σ=[some (.ref L),v1,v2]/\H' L=some (.lst ws)/\Paired (o9 K) ws ((Hm.LINES.take i).flatMap (·.2))/\ws.length<=10*i/\az H H')
   ⟨none,none,[],rfl,ak,.nil,Nat.zero_le _,dz (az.refl H) hLn⟩ (λi σ H' _ _=>hvs _) ?_ ?_
  ·rintro i x σ H' hx ⟨v1,v2,ws,rfl,h1,h2,h3,s'⟩
   obtain⟨l,hl,aa,cc,z,vsC,rfl,hA,hz,hC,hPC⟩:=ph hpl hx
   have lok:=Hm.ahn l (List.mem_of_getElem? hl)
   have lc:=je hPC
   have lf:=lok.few
   have hi:i<Hm.LINES.length:=(List.getElem?_eq_some_iff.mp hl).1
   have hi:i<6:=hi
   have tk:(Hm.LINES.take (i+1)).flatMap (·.2)=(Hm.LINES.take i).flatMap (·.2)++l.2:=by
    rw[List.take_succ,hl,List.flatMap_append]
    show _++(l.2++[])=_
    rw[List.append_nil]
   refine⟨aa,_,rfl,hA _,rfl,_,_,rfl,_,_,rfl,rfl,?_⟩
   refine⟨_,rfl,.inl ⟨rfl,_,SqL.of h1⟩,_,rfl,L,cc,ws,vsC,rfl,rfl,h1,hC _,by rw[sizeLine_eq];omega,_,_,_,rfl,ak,?_,by rw[List.length_append];omega,ji s' hLn⟩
   rw[tk]
   exact anx hPC h2
  ·rintro σ H' ⟨v1,v2,ws,rfl,h1,h2,h3,s'⟩
   rw[hlen,List.take_length]at h2
   exact⟨_,rfl,q H' L ws hLn h1 h2 s'⟩
end
def Txt(z:Str)(b:Bytes):Prop:=z.cps.toList=b.map UInt8.toNat
theorem Txt.append{y z:Str}{a b:Bytes}(h:Txt y a)(k:Txt z b):Txt (y++z) (a++b):=by
 have e:(y++z).cps.toList=y.cps.toList++z.cps.toList:=by rw[Str.cps_append,Array.toList_append]
 unfold Txt at *
 rw[e,h,k,List.map_append]
theorem Txt.len{z:Str}{b:Bytes}(h:Txt z b):z.length=b.length:=by
 have:=str_len h
 rw[List.length_map]at this
 exact this
def aql:Sp:=λvs H Q _=>∃(z:Str) (b:Bytes),vs=[.str z]/\Txt z b/\b.length<=1000000/\∀L,H L=none->Q (.ref L) (upd H L (.lst (bz b)))
theorem atz{f:List Nat}(h:f.length=13):m6 (du f) (some 2) (some 11)=du ((f.drop 2).take 9):=by
 unfold m6
 have e2:=HT.ad0 (du f).length 0 2
 have e11:=HT.ad0 (du f).length (du f).length 11
 rw[zm,h]at e2 e11
 have e2:HT.sIx (du f).length 0 (some (2:Int))=2:=by rw[zm,h];exact e2
 have e11:HT.sIx (du f).length (du f).length (some (11:Int))=11:=by rw[zm,h];exact e11
 rw[e2,e11]
 unfold du
 rw[<-List.map_drop,<-List.map_take]
section
variable{P:Program}{w:World}{K:PySem.W.Frag}{mg:Str->Option Value}{base:Heap}
theorem ax6{f:Addr}(F:Fn K "bytes_of" "bytes_of" afs ["text"] f)(ho:mg "ord" = none):Def P w K mg base CX0 1 f ["text"] aql:=by
 refine F.ok0 api (λvs H Q E h=>?_) (λcdv A outer s H vs Q E hr h=>?_)
 ·obtain⟨z,b,rfl,_⟩:=h
  rfl
 ·obtain⟨z,b,rfl,hz,hb,q⟩:=h
  have nd:=api.nd
  refine⟨_,bh (dj (zr (own:=[("sign",1)]) rfl nd (afg (pv 0)) (vp (N:=["text", "sign"]) (sc:=bj afs) (by decide +kernel))
   (λ_ _ _ _ _=>gm (i:=1) nd rfl (Or.inl rfl)) (λ_ _ _ _ _=>aax) (λ_ _ _ _ _=>jg zc (by rfl) ho PyProof.Rows.boot_ord (aj (pv 1) aq)))),?_⟩
  refine⟨_,rfl,z,rfl,λD hD=>?_⟩
  have hl:=hz.len
  have hsz:z.cps.size=b.length:=hl
  refine aey b.length (λi Hc=>Hc=upd H D (.lst (bz (b.take i)))) rfl ?_ ?_
  ·rintro i Hc hi rfl
   refine⟨by show i<z.cps.size;omega,?_⟩
   rintro x H' ⟨rfl,c0,hc0,rfl⟩
   have e0:c0=b[i].toNat:=by
    have e1:z.cps.toList[i]? = some c0:=by simpa using hc0
    rw[hz,List.getElem?_map,List.getElem?_eq_getElem hi]at e1
    cases e1
    rfl
   subst e0
   have tk:b.take (i+1)=b.take i++[b[i]]:=by rw[List.take_succ,List.getElem?_eq_getElem hi];rfl
   refine⟨rfl,_,rfl,⟨#[b[i].toNat]⟩,rfl,rfl,_,ak,?_,?_⟩
   ·rw[uf,List.length_take,sizeLine_eq]
    omega
   ·rw[yz,tk]
    unfold bz
    rw[List.map_append]
    rfl
  ·rintro Hc rfl
   rw[List.take_length]
   exact⟨by show z.cps.size<=b.length;omega,q D hD⟩
theorem ax7{f:Addr}(F:Fn K "can_be_written" "can_be_written" aft ["facts"] f)(gZ:GD P w K mg base CX0 1 "is_size" ["number"] akf)(gC:GD P w K mg base CX0 1 "all_choices" [] (aqo K))(hl:mg "len" = none)(hz:mg "zip" = none)(hall:mg "all" = none)
  (h13:fc mg "FACTS" 13) (h0:fc mg "WIDE" 0) (h1:fc mg "HIGH" 1) (h2:fc mg "FIRST_WORD" 2) (h11:fc mg "LIMIT" 11):Def P w K mg base CX0 2 f ["facts"] aqm:=by
 obtain⟨fZ,gZ,DZ⟩:=gZ
 obtain⟨fC,gC,DC⟩:=gC
 obtain⟨u13,h13,r13⟩:=h13
 obtain⟨u0,h0,r0⟩:=h0
 obtain⟨u1,h1,r1⟩:=h1
 obtain⟨u2,h2,r2⟩:=h2
 obtain⟨u11,h11,r11⟩:=h11
 refine F.ok0 apj (λvs H Q E h=>?_) (λcdv A outer s H vs Q E hr h=>?_)
 ·obtain⟨a,f,rfl,_⟩:=h
  rfl
 ·obtain⟨a,f,rfl,ha,q⟩:=h
  have nd:=apj.nd
  refine⟨_,au (jl (PW.pt (yu (iy aaq (jg xn (by rfl) hl PySem.boot_len (aj (pv 0) aq)) (di (by rfl) h13 r13) (gf _))
     (yu (u9 (uc (d8 DZ hr rfl gZ bu (aj (gk m8 (pv 0) (di (by rfl) h0 r0) (λ_ _=>rfl)) aq)))) (ack (u9 (uc (d8 DZ hr rfl gZ bu (aj (gk m8 (pv 0) (di (by rfl) h1 r1) (λ_ _=>rfl)) aq))))))))
    (bh (dj ach)) jq)
   (bh (dj (jg (atv rfl) (by rfl) hall PyProof.Rows.boot_all (aj (zr (own:=[("number",1),("words",2)]) rfl nd
    (aoa (by rfl) hz (aj (adu ad2 (pv 0) (abj (di (by rfl) h2 r2)) (abj (di (by rfl) h11 r11))) (aj (azn DC hr rfl gC bu) aq)))
    (vp (N:=["facts", "number", "words"]) (sc:=bj aft) (by decide +kernel))
    (λ_ _ _ _ _=>adv (K:=K) (n:=2) rfl (jk (gm (i:=1) nd rfl (Or.inl rfl)) (jk (gm (i:=2) nd rfl (Or.inl rfl)) xu))) (λ_ _ _ _ _=>aax)
    (λ_ _ _ _ _=>tu zq (pv 1) (jg (awf (K:=K)) (by rfl) hl PySem.boot_len (aj (pv 2) aq)) (gf _))) aq)))),?_⟩
  refine⟨_,rfl,a,_,rfl,.inl (SqL.of ha),rfl,_,rfl,?_⟩
  rw[zm]
  by_cases hl13:f.length=13
  case neg =>
   rw[show(!decide (V.int (f.length:Int)=V.int 13))=true by rw[dV (p:=f.length=13) (by omega),decide_eq_false hl13];rfl]
   refine d9 (d9 ?_)
   have e:rn f=false:=by unfold rn;rw[decide_eq_false hl13];rfl
   rw[e]at q
   exact q H (az.refl H)
  rw[show(!decide (V.int (f.length:Int)=V.int 13))=false by rw[dV (p:=f.length=13) (by omega),decide_eq_true hl13];rfl]
  refine gh ⟨_,rfl,a,_,_,_,rfl,rfl,SqL.of ha,gr (j:=0) (ab4 (by omega)),f.getD 0 0,rfl,_,rfl,?_⟩
  cases e0:TaflRules.isSize (f.getD 0 0)with
  | false =>
   refine d9 (d9 ?_)
   have e:rn f=false:=by unfold rn;rw[e0,Bool.and_false];rfl
   rw[e]at q
   exact q H (az.refl H)
  | true =>
  refine gh ⟨_,rfl,a,_,_,_,rfl,rfl,SqL.of ha,gr (j:=1) (ab4 (by omega)),f.getD 1 0,rfl,_,rfl,?_⟩
  cases e1:TaflRules.isSize (f.getD 1 0)with
  | false =>
   refine d9 ?_
   have e:rn f=false:=by unfold rn;rw[e1,Bool.and_false];rfl
   rw[e]at q
   exact q H (az.refl H)
  | true =>
  have ec:rn f=(((f.drop 2).take 9).zip n6).all λq=>decide (q.1<q.2.length):=by unfold rn;rw[e0,e1,decide_eq_true hl13];rfl
  rw[ec]at q
  refine gh ⟨_,rfl,_,rfl,_,rfl,a,_,rfl,SqL.of ha,λS hS=>?_⟩
  have s1:=dz (o:=.lst (m6 (du f) (some 2) (some 11))) (az.refl H) hS
  refine⟨rfl,λH2 L ws _ hL hW s2=>?_⟩
  have s02:=s1.trans s2
  have hS2:=s2 _ _ ak
  rw[atz hl13]at hS2
  have lw:=je hW
  have lw:ws.length=9:=lw
  have lf:((f.drop 2).take 9).length=9:=by rw[List.length_take,List.length_drop];omega
  have lz:(((f.drop 2).take 9).zip n6).length=9:=by rw[List.length_zip,lf];rfl
  refine⟨S,L,_,_,rfl,SqL.of hS2,SqL.of hL,λD hD=>?_⟩
  refine aey 9 (λi Hc=>az H2 Hc/\Hc D=some (.lst ((((((f.drop 2).take 9).zip n6).take i).map λq=>decide (q.1<q.2.length)).map V.bl))) ⟨dz (az.refl H2) hD,ak⟩ ?_ ?_
  ·rintro i Hc hi ⟨s',hDc⟩
   have ef:(du ((f.drop 2).take 9))[i]? = some (V.int ((((f.drop 2).take 9)[i]'(by omega):Nat):Int)):=by rw[ahd,List.getElem?_eq_getElem (by omega)];rfl
   have ew:ws[i]? = some ws[i]:=List.getElem?_eq_getElem (by omega)
   refine⟨⟨_,_,_,_,SqL.of (s' _ _ hS2),SqL.of (s' _ _ hL),ef,ew⟩,?_⟩
   rintro x H' ⟨T,x1,x2,rfl,hTn,rfl,hx1,hx2⟩
   have a1:=hx1 _ (SqL.of (s' _ _ hS2))
   have a2:=hx2 _ (SqL.of (s' _ _ hL))
   rw[ef]at a1
   rw[ew]at a2
   cases a1
   cases a2
   obtain⟨wl,hwl,hwk⟩:=ph hW ew
   have ez:(((f.drop 2).take 9).zip n6)[i]? = some (((f.drop 2).take 9)[i]'(by omega),wl):=by
    rw[List.getElem?_zip_eq_some]
    exact⟨List.getElem?_eq_getElem (by omega),hwl⟩
   have tk:(((f.drop 2).take 9).zip n6).take (i+1)=(((f.drop 2).take 9).zip n6).take i++[(((f.drop 2).take 9)[i]'(by omega),wl)]:=by rw[List.take_succ,ez];rfl
   have nDT:D≠T:=bx hDc hTn
   refine⟨T,_,rfl,SqT.of ak,rfl,_,_,rfl,_,_,rfl,rfl,rfl,_,rfl,_,rfl,_,wl.length,rfl,(hwk.words _).len,_,_,rfl,rfl,_,by rw[ao nDT];exact hDc,?_,ji (dz s' hTn) hD,?_⟩
   ·rw[List.length_map,List.length_map,List.length_take,sizeLine_eq]
    omega
   ·rw[ak,tk,List.map_append,List.map_append]
    congr 2
    show _++[V.bl _]=_++[V.bl _]
    congr 3
    exact decide_eq_decide.mpr (Int.ofNat_lt)
  ·rintro Hc ⟨s',hDc⟩
   refine⟨⟨_,_,SqL.of (s' _ _ hS2),SqL.of (s' _ _ hL),.inr (by omega)⟩,?_⟩
   rw[List.take_of_length_le (by omega)]at hDc
   refine⟨D,_,rfl,SqL.of hDc,?_⟩
   have:=q Hc (s02.trans s')
   rw[show(List.map (λq:Nat×List Bytes=>decide (q.1<q.2.length)) (((f.drop 2).take 9).zip n6)).all id=(((f.drop 2).take 9).zip n6).all λq=>decide (q.1<q.2.length) by rw[List.all_map];rfl]
   exact this
end
open Hm (Ln xm lnT chT Can wd)
def aab(H:Hp)(L:Addr)(ll:List (List Nat)):Prop:=∃qs:List Addr,H L=some (.lst (qs.map V.ref))/\Paired (λq l=>H q=some (.lst (du l))) qs ll
theorem aa7.weak{H:Hp}{L:Addr}{ll:List (List Nat)}(h:aa7 H L ll):aab H L ll:=let ⟨qs,h1,h2⟩:=h;⟨qs,h1,m9 (λ_ _ k=>k.2) h2⟩
theorem aab.same{H H':Hp}{L:Addr}{ll:List (List Nat)}(h:aab H L ll)(k:az H H'):aab H' L ll:=let ⟨qs,h1,h2⟩:=h;⟨qs,k _ _ h1,m9 (λ_ _ q=>k _ _ q) h2⟩
def aco(ps:List (List Nat×UInt8))(c:Nat):Option UInt8:=ps.foldl (λacc p=>if c∈p.1 then some p.2 else acc) none
theorem a2t(ps:List (List Nat×UInt8))(p:List Nat×UInt8)(c:Nat):aco (ps++[p]) c=if c∈p.1 then some p.2 else aco ps c:=by
 unfold aco
 rw[List.foldl_append]
 rfl
def tot(ps:List (List Nat×UInt8)):Nat:=(ps.map λp=>p.1.length).sum
theorem aru(ps:List (List Nat×UInt8))(p:List Nat×UInt8):tot (ps++[p])=tot ps+p.1.length:=by
 unfold tot
 rw[List.map_append,List.sum_append]
 rfl
theorem a4b(ps:List (List Nat×UInt8))(i:Nat):tot (ps.take i)<=tot ps:=by
 unfold tot
 rw[List.map_take]
 have:=congrArg List.sum (List.take_append_drop i (ps.map λp=>p.1.length))
 rw[List.sum_append]at this
 omega
def ara:Sp:=λvs H Q _=>∃(a:Addr) (z:Str) (ll:List (List Nat)) (cs:Bytes),vs=[.ref a,.str z]/\aab H a ll/\Txt z cs/\(∀c∈cs,c.toNat<128)/\ll.length=cs.length/\tot (ll.zip cs)<=1000000 /\
 ∀H' d kvs,H d=none->H' d=some (.dK kvs)->(∀c:Nat,jd kvs (Sum.inl (c:Int))=(aco (ll.zip cs) c).map λs=>V.str (sgn s))->kvs.length<=1000000->az H H'->Q (.ref d) H'
section
variable{P:Program}{w:World}{K:PySem.W.Frag}{mg:Str->Option Value}{base:Heap}
theorem ayz{f:Addr}(F:Fn K "signs_of" "signs_of" aj3 ["lists", "signs"] f)(hz:mg "zip" = none):Def P w K mg base CX0 1 f ["lists", "signs"] ara:=by
 refine F.ok0 ap1 (λvs H Q E h=>?_) (λcdv A outer s H vs Q E hr h=>?_)
 ·obtain⟨a,z,ll,cs,rfl,_⟩:=h
  rfl
 ·obtain⟨a,z,ll,cs,rfl,⟨qs,hq1,hq2⟩,hzt,hasc,hlen,htot,q⟩:=h
  have nd:=ap1.nd
  refine⟨_,au (cz (i:=2) nd rfl (Or.inl rfl) azy)
   (au (t7 PassesOwn.never rfl (a0e (by rfl) hz (aj (pv 0) (aj (pv 1) aq))) (abi rfl (jk (gm (i:=3) nd rfl (Or.inl rfl)) (jk (gm (i:=4) nd rfl (Or.inl rfl)) xu)))
    (bh (t7 PassesOwn.never rfl (aas (pv 3)) (gm (i:=5) nd rfl (Or.inl rfl)) (bh (aoi (ab3 hr) (pv 2) (pv 5) (pv 4) rfl)))))
   (bh (dj (pv 2)))),?_⟩
  refine λd hd=>?_
  have s1:=dz (o:=.dK []) (az.refl H) hd
  have hsz:z.cps.size=cs.length:=hzt.len
  have hall:z.cps.all (·< 128)=true:=by
   rw[Array.all_eq_true']
   intro c hc
   have hc:c∈z.cps.toList:=Array.mem_toList_iff.mpr hc
   rw[hzt]at hc
   obtain⟨b,hb,rfl⟩:=List.mem_map.mp hc
   exact decide_eq_true (hasc b hb)
  have lq:=je hq2
  refine⟨_,rfl,_,rfl,a,z,_,rfl,hall,SqL.of (s1 _ _ hq1),?_⟩
  refine ag5 cs.length (λi σ H'=>∃(v3 v4 v5:Option V) (kvs:List (Key×V)),σ=[some (.ref a),some (.str z),some (.ref d),v3,v4,v5]/\az H H'/\H' d=some (.dK kvs)/\(∀c:Nat,jd kvs (Sum.inl (c:Int))=(aco ((ll.zip cs).take i) c).map λs=>V.str (sgn s))/\kvs.length<=tot ((ll.zip cs).take i))
   ⟨none,none,none,[],rfl,s1,ak,λ_=>rfl,Nat.zero_le _⟩ ?_ ?_
  ·rintro i σ H' hi ⟨v3,v4,v5,kvs,rfl,s',hdk,hval,hkl⟩
   have hiq:i<qs.length:=by omega
   have hil:i<ll.length:=by omega
   have eq:(qs.map V.ref)[i]? = some (.ref qs[i]):=by rw[List.getElem?_map,List.getElem?_eq_getElem hiq];rfl
   have ec:z.cps[i]? = some cs[i].toNat:=by
    have:z.cps.toList[i]? = some cs[i].toNat:=by rw[hzt,List.getElem?_map,List.getElem?_eq_getElem hi];rfl
    simpa using this
   refine⟨⟨_,_,_,SqL.of (s' _ _ hq1),eq,ec⟩,?_⟩
   rintro x H2 ⟨T,x1,c1,rfl,hTn,rfl,hx1,hc1⟩
   have a1:=hx1 _ (SqL.of (s' _ _ hq1))
   rw[eq]at a1
   cases a1
   rw[ec]at hc1
   cases hc1
   obtain⟨l,hl,hql⟩:=ph hq2 (List.getElem?_eq_getElem hiq)
   have ez:(ll.zip cs)[i]? = some (l,cs[i]):=by rw[List.getElem?_zip_eq_some];exact⟨hl,List.getElem?_eq_getElem hi⟩
   have tk:(ll.zip cs).take (i+1)=(ll.zip cs).take i++[(l,cs[i])]:=by rw[List.take_succ,ez];rfl
   have ht1:=a4b (ll.zip cs) (i+1)
   rw[tk,aru]at ht1
   have ht1:tot ((ll.zip cs).take i)+l.length<=tot (ll.zip cs):=ht1
   have s2:=dz (o:=.tup [.ref qs[i],.str ⟨#[cs[i].toNat]⟩]) s' hTn
   have ndT:d≠T:=bx hdk hTn
   refine⟨T,_,rfl,SqT.of ak,rfl,_,_,rfl,_,_,rfl,rfl,_,rfl,qs[i],rfl,⟨_,SqL.of (s2 _ _ hql)⟩,?_⟩
   refine ame (K:=K) (a:=qs[i]) (xs:=du l) (λj σ H'=>∃(v5:Option V) (kvs:List (Key×V)),σ=[some (.ref a),some (.str z),some (.ref d),some (.ref qs[i]),some (.str ⟨#[cs[i].toNat]⟩),v5]/\az H H'/\H' d=some (.dK kvs)/\(∀c:Nat,jd kvs (Sum.inl (c:Int))=if c∈l.take j then some (V.str (sgn cs[i]))else(aco ((ll.zip cs).take i) c).map λs=>V.str (sgn s))/\kvs.length<=tot ((ll.zip cs).take i)+j)
    ⟨v5,kvs,rfl,s2,by rw[ao ndT];exact hdk,λc=>by rw[hval,if_neg (by simp)],hkl⟩ (λj σ H' _ ⟨_,_,_,s',_⟩=>SqL.of (s' _ _ hql)) ?_ ?_
   ·rintro j x σ H3 hx ⟨v5,kvs,rfl,s3,hdk,hval,hkl⟩
    rw[ahd]at hx
    obtain⟨n,hn,rfl⟩:=Option.map_eq_some_iff.mp hx
    have hjl:j<l.length:=(List.getElem?_eq_some_iff.mp hn).1
    have tkj:l.take (j+1)=l.take j++[n]:=by rw[List.take_succ,hn];rfl
    have hlp:=ae0 kvs (Sum.inl (n:Int)) (V.str (sgn cs[i]))
    refine⟨_,rfl,_,rfl,_,rfl,d,_,rfl,abx.k (k:=Sum.inl (n:Int)) hdk (by rw[sizeLine_eq];omega),_,putK kvs (Sum.inl (n:Int)) (V.str (sgn cs[i])),rfl,ji s3 hd,ak,λc=>?_,by omega⟩
    rw[ar8,hval,tkj]
    by_cases hcn:c=n
    ·subst hcn
     rw[if_pos rfl,if_pos (List.mem_append_right _ (List.mem_singleton.mpr rfl))]
    ·rw[if_neg (λe=>hcn (by injection e with e;omega))]
     by_cases hm:c∈l.take j
     ·rw[if_pos hm,if_pos (List.mem_append_left _ hm)]
     ·rw[if_neg hm,if_neg (λe=>(List.mem_append.mp e).elim hm λe=>hcn (List.mem_singleton.mp e))]
   ·rintro σ H3 ⟨v5,kvs,rfl,s3,hdk,hval,hkl⟩
    rw[zm]at hval hkl
    refine⟨_,_,_,kvs,rfl,s3,hdk,λc=>?_,by rw[tk,aru];exact hkl⟩
    rw[hval,List.take_length,tk,a2t]
    show _=Option.map _ (if c∈l then some cs[i] else _)
    by_cases hm:c∈l
    ·rw[if_pos hm,if_pos hm]
     rfl
    ·rw[if_neg hm,if_neg hm]
  ·rintro σ H' ⟨v3,v4,v5,kvs,rfl,s',hdk,hval,hkl⟩
   have lz:(ll.zip cs).length<=cs.length:=by rw[List.length_zip];omega
   rw[List.take_of_length_le lz]at hval hkl
   refine⟨⟨_,SqL.of (s' _ _ hq1),.inr (by omega)⟩,_,rfl,q H' d kvs hd hdk hval (by omega) s'⟩
end
def aqk:Sp:=λvs H Q _=>∃(a d:Addr) (f:List Nat) (kvs:List (Key×V)) (sign:Nat->UInt8),vs=[.ref a,.ref d]/\H a=some (.lst (du f))/\Can f/\H d=some (.dK kvs)/\(∀c:Nat,(jd kvs (Sum.inl (c:Int))).getD (.str (sgn 46))=.str (sgn (sign c))) /\
 ∀H' z,az H H'->Txt z (xm (f.getD 0 0) (f.getD 1 0) sign)->Q (.str z) H'
def wu(wd y:Nat)(sign:Nat->UInt8):Bytes:=(List.range wd).map λx=>sign (13*y+x)
def yh(wd h:Nat)(sign:Nat->UInt8)(n:Nat):Bytes:=(List.range n).flatMap λi=>wu wd (h-1-i) sign++[10]
theorem ac3(wd h:Nat)(sign:Nat->UInt8):∀n,(yh wd h sign n).length=n*(wd+1)
 | 0=>by simp[yh]
 | n+1=>by
  have ih:=ac3 wd h sign n
  unfold yh at ih ⊢
  rw[List.range_succ,List.flatMap_append,List.length_append,ih,Nat.succ_mul]
  simp[wu]
section
variable{P:Program}{w:World}{K:PySem.W.Frag}{mg:Str->Option Value}{base:Heap}
theorem ax5{f:Addr}(F:Fn K "board_text" "board_text" ajm ["facts", "board"] f)(hrev:mg "reversed" = none)(hrg:mg "range" = none)(h0:fc mg "WIDE" 0)(h1:fc mg "HIGH" 1)(hR:fc mg "ROW" 13):Def P w K mg base CX0 1 f ["facts", "board"] aqk:=by
 obtain⟨u0,h0,r0⟩:=h0
 obtain⟨u1,h1,r1⟩:=h1
 obtain⟨uR,hR,rR⟩:=hR
 refine F.ok0 aph (λvs H Q E h=>?_) (λcdv A outer s H vs Q E hr h=>?_)
 ·obtain⟨a,d,f,kvs,sign,rfl,_⟩:=h
  rfl
 ·obtain⟨a,d,f,kvs,sign,rfl,ha,can,hd,hsign,q⟩:=h
  have nd:=aph.nd
  refine⟨_,au (cz (i:=2) nd rfl (Or.inl rfl) gj)
   (au (t7 PassesOwn.never rfl (an9 (by rfl) hrev (aj (adp ags (by rfl) hrg boot_range (aj (gk m8 (pv 0) (di (by rfl) h1 r1) (λ_ _=>rfl)) aq)) aq)) (gm (i:=3) nd rfl (Or.inl rfl))
    (au (t7 PassesOwn.never rfl (afe (by rfl) hrg (aj (gk m8 (pv 0) (di (by rfl) h0 r0) (λ_ _=>rfl)) aq)) (gm (i:=4) nd rfl (Or.inl rfl))
     (bh (aaw (i:=2) nd rfl (Or.inl rfl) (azx (ab3 hr) (pv 1) (gw yr (gw ae9 (di (by rfl) hR rR) (pv 3)) (pv 4)) gj ⟨rfl,rfl,rfl,rfl⟩) ab6)))
    (bh (aaw (i:=2) nd rfl (Or.inl rfl) gj ab6))))
   (bh (dj (pv 2)))),?_⟩
  have hw:=can.w
  have hh:=can.h
  have hl:=can.len
  generalize ew:f.getD 0 0=W at hw q
  generalize eh:f.getD 1 0=Hh at hh q
  have fh:(du f)[1]? = some (V.int (Hh:Int)):=by rw[<-eh];exact ab4 (by omega)
  have fw:(du f)[0]? = some (V.int (W:Int)):=by rw[<-ew];exact ab4 (by omega)
  refine⟨_,rfl,a,_,_,_,rfl,rfl,SqL.of ha,gr (j:=1) fh,_,rfl,λpr hpr=>⟨pr,_,rfl,ak,by omega,by omega,?_⟩⟩
  have s1:=dz (o:=.rng 0 (Hh:Int)) (az.refl H) hpr
  have e1:((Hh:Int)).toNat=Hh:=by omega
  rw[e1]
  refine amf (λi σ H'=>∃(z:Str) (v3 v4:Option V),σ=[some (.ref a),some (.ref d),some (.str z),v3,v4]/\az H H'/\Txt z (yh W Hh sign i)) ⟨_,none,none,rfl,s1,rfl⟩ ?_ ?_
  ·rintro i σ H' hi ⟨z,v3,v4,rfl,s',hz⟩
   have ey:(Hh:Int)-1+(i:Nat)*(-1:Int)=((Hh-1-i:Nat):Int):=by omega
   rw[ey]
   have hzl:=hz.len
   rw[ac3]at hzl
   have hmul:i*(W+1)<=13*14:=Nat.mul_le_mul (by omega) (by omega)
   refine⟨_,rfl,a,_,_,_,rfl,rfl,SqL.of (s' _ _ ha),gr (j:=0) fw,_,rfl,by omega,by omega,?_⟩
   have e2:((W:Int)).toNat=W:=by omega
   rw[e2]
   refine ag6 (lo:=0) (λj σ H'=>∃(z:Str) (v4:Option V),σ=[some (.ref a),some (.ref d),some (.str z),some (.int ((Hh-1-i:Nat):Int)),v4]/\az H H'/\Txt z (yh W Hh sign i++wu j (Hh-1-i) sign)) ⟨z,v4,rfl,s',by unfold wu;rw[List.range_zero,List.map_nil,List.append_nil];exact hz⟩ ?_ ?_
   ·rintro j σ H2 hj ⟨z,v4,rfl,s',hz⟩
    have hzl:=hz.len
    rw[List.length_append,ac3]at hzl
    have hrl:(wu j (Hh-1-i) sign).length=j:=by unfold wu;simp
    have ek:(13:Int)*((Hh-1-i:Nat):Int)+(0+(j:Int))=((13*(Hh-1-i)+j:Nat):Int):=by omega
    refine⟨_,rfl,_,rfl,d,rfl,.inl ⟨kvs,.inl (s' _ _ hd)⟩,_,rfl,_,_,rfl,rfl,.inl ⟨by decide,by decide⟩,_,rfl,_,_,rfl,rfl,?_⟩
    dsimp only
    rw[ek]
    refine⟨_,z7.k (k:=Sum.inl ((13*(Hh-1-i)+j:Nat):Int)) (s' _ _ hd),?_⟩
    rw[ap8,hsign]
    refine⟨z,_,rfl,rfl,?_,_,_,rfl,s',?_⟩
    ·show z.length+1<=sizeLine
     rw[sizeLine_eq]
     omega
    ·have tk:wu (j+1) (Hh-1-i) sign=wu j (Hh-1-i) sign++[sign (13*(Hh-1-i)+j)]:=by
      unfold wu
      rw[List.range_succ,List.map_append]
      rfl
     rw[tk,<-List.append_assoc]
     exact hz.append rfl
   ·rintro σ H2 ⟨z,v4,rfl,s',hz⟩
    have hzl:=hz.len
    rw[List.length_append,ac3]at hzl
    have hrl:(wu W (Hh-1-i) sign).length=W:=by unfold wu;simp
    refine⟨_,rfl,z,_,rfl,rfl,?_,_,_,_,rfl,s',?_⟩
    ·show z.length+1<=sizeLine
     rw[sizeLine_eq]
     omega
    ·have tk:yh W Hh sign (i+1)=yh W Hh sign i++wu W (Hh-1-i) sign++[10]:=by
      unfold yh
      rw[List.range_succ,List.flatMap_append]
      simp
     rw[tk]
     exact hz.append rfl
  ·rintro σ H' ⟨z,v3,v4,rfl,s',hz⟩
   exact⟨_,rfl,q H' z s' hz⟩
end
open Hm (Ln xm lnT chT Can wd n6)
def aq0:Sp:=λvs H Q _=>∃(a:Addr) (f:List Nat),vs=[.ref a]/\H a=some (.lst (du f))/\Can f/\∀z,Txt z (lnT f 2 Hm.LINES)->z.length<=2000->Q (.str z) H
theorem rm{z:Str}{b:Bytes}(h:z.cps.toList=b.map UInt8.toNat):Txt z b:=h
section
variable{P:Program}{w:World}{K:PySem.W.Frag}{mg:Str->Option Value}{base:Heap}
theorem ayo{f:Addr}(F:Fn K "lines_text" "lines_text" ajx ["facts"] f)(hL:aee K mg Hm.LINES)(h2:fc mg "FIRST_WORD" 2):Def P w K mg base CX0 1 f ["facts"] aq0:=by
 obtain⟨aL,vsL,mL,hvs,hpl⟩:=hL
 obtain⟨u2,h2,r2⟩:=h2
 have hlen:=je hpl
 refine F.ok0 aps (λvs H Q E h=>?_) (λcdv A outer s H vs Q E hr h=>?_)
 ·obtain⟨a,f,rfl,_⟩:=h
  rfl
 ·obtain⟨a,f,rfl,ha,can,q⟩:=h
  have nd:=aps.nd
  have hfl:=can.len
  refine⟨_,au (cz (i:=1) nd rfl (Or.inl rfl) gj)
   (au (cz (i:=2) nd rfl (Or.inl rfl) (di (by rfl) h2 r2))
   (au (t7 PassesOwn.never rfl (adx (di (by rfl) mL (aay aL))) (abi rfl (jk (gm (i:=3) nd rfl (Or.inl rfl)) (jk (gm (i:=4) nd rfl (Or.inl rfl)) xu)))
    (au (aaw (i:=1) nd rfl (Or.inl rfl) (pv 3) ab6)
    (au (t7 PassesOwn.never rfl (adx (pv 4)) (gm (i:=5) nd rfl (Or.inl rfl))
     (au (aaw (i:=1) nd rfl (Or.inl rfl) (gw acg gj (gk ahg (pv 5) (gk m8 (pv 0) (pv 2) (λ_ _=>rfl)) (λ_ _=>rfl))) ab6)
     (bh (aaw (i:=2) nd rfl (Or.inl rfl) dm amw))))
    (bh (aaw (i:=1) nd rfl (Or.inl rfl) gj ab6)))))
   (bh (dj (pv 1))))),?_⟩
  refine⟨aL,rfl,⟨_,hvs _⟩,?_⟩
  refine adb (K:=K) (a:=aL) (xs:=vsL) (λi σ H'=>∃(z:Str) (v3 v4 v5:Option V),σ=[some (.ref a),some (.str z),some (.int ((2+((Hm.LINES.take i).flatMap (·.2)).length:Nat):Int)),v3,v4,v5]/\H'=H/\Txt z (lnT f 2 (Hm.LINES.take i))/\z.length<=200*i)
   ⟨_,none,none,none,rfl,rfl,rfl,Nat.zero_le _⟩ (λi σ H' _ _=>hvs _) ?_ ?_
  ·rintro i x σ H' hx ⟨z,v3,v4,v5,rfl,rfl,hz,hzl⟩
   obtain⟨l,hl,aa,cc,zh,vsC,rfl,hA,hzh,hC,hPC⟩:=ph hpl hx
   have lok:=Hm.ahn l (List.mem_of_getElem? hl)
   have lc:=je hPC
   have lf:=lok.few
   have lhd:=lok.hd
   have hi:i<Hm.LINES.length:=(List.getElem?_eq_some_iff.mp hl).1
   have hi6:i<6:=hi
   have tk:Hm.LINES.take (i+1)=Hm.LINES.take i++[l]:=by rw[List.take_succ,hl];rfl
   have hzhl:=Txt.len (rm hzh)
   generalize hn:((Hm.LINES.take i).flatMap (·.2)).length=n
   have hdr:n6=(Hm.LINES.take i).flatMap (·.2)++(l.2++(Hm.LINES.drop (i+1)).flatMap (·.2)):=by
    unfold Hm.n6
    conv=>lhs;rw[<-List.take_append_drop (i+1) Hm.LINES,List.flatMap_append,tk,List.flatMap_append]
    rw[List.append_assoc]
    congr 1
    show(l.2++[])++_=_
    rw[List.append_nil]
   have hcw:∀j ws,l.2[j]? = some ws->n6[n+j]? = some ws:=λj ws hj=>by
    rw[hdr,<-hn,List.getElem?_append_right (by omega)]
    rw[show((Hm.LINES.take i).flatMap (·.2)).length+j-((Hm.LINES.take i).flatMap (·.2)).length=j by omega]
    rw[List.getElem?_append_left (List.getElem?_eq_some_iff.mp hj).1]
    exact hj
   refine⟨aa,_,rfl,hA _,rfl,_,_,rfl,_,_,rfl,rfl,?_⟩
   refine⟨_,rfl,_,rfl,z,zh,rfl,rfl,by rw[sizeLine_eq];omega,_,rfl,cc,rfl,⟨_,hC _⟩,?_⟩
   have hzz:Txt (z++zh) (lnT f 2 (Hm.LINES.take i)++l.1):=hz.append hzh
   have hzzl:(z++zh).length=z.length+zh.length:=by rw[hzz.len,List.length_append,<-hz.len,hzhl]
   refine adb (K:=K) (a:=cc) (xs:=vsC) (λj σ H2=>∃(z:Str) (v5:Option V),σ=[some (.ref a),some (.str z),some (.int ((2+n+j:Nat):Int)),some (.str zh),some (.ref cc),v5]/\H2=H'/\Txt z (lnT f 2 (Hm.LINES.take i)++l.1++chT f (2+n) (l.2.take j))/\z.length<=200*i+15+16*j)
    ⟨z++zh,v5,rfl,rfl,by show Txt _ (_++[]);rw[List.append_nil];exact hzz,by omega⟩ (λj σ H' _ _=>hC _) ?_ ?_
   ·rintro j x σ H' hx ⟨z,v5,rfl,rfl,hz,hzl⟩
    obtain⟨ws,hw,hW⟩:=ph hPC hx
    have hjl:j<l.2.length:=(List.getElem?_eq_some_iff.mp hw).1
    have wok:=lok.ws ws (List.mem_of_getElem? hw)
    have tkj:l.2.take (j+1)=l.2.take j++[ws]:=by rw[List.take_succ,hw];rfl
    have hcl:n+j<9:=by
     have:=(List.getElem?_eq_some_iff.mp (hcw j ws hw)).1
     exact this
    have hword:=Hm.atp can (n+j) ws (hcw j ws hw)
    rw[show 2+(n+j)=2+n+j by omega]at hword
    refine⟨_,rfl,_,rfl,_,rfl,_,rfl,a,_,_,_,rfl,rfl,SqL.of ha,gr (j:=2+n+j) (ab4 (by omega)),(hW.words _).ix hword λy hy=>?_⟩
    have hyl:=Txt.len (rm hy)
    have hsh:=wok.1.sh _ hword
    refine⟨_,_,rfl,rfl,?_,?_⟩
    ·show 1+y.length<=sizeLine
     rw[sizeLine_eq]
     omega
    have hsp:Txt (Str.ofString " " ++ y) (32::wd ws (f.getD (2+n+j) 0)):=Txt.append (y:=Str.ofString " ") (a:=[32]) (rm (by decide +kernel)) hy
    have hspl:=hsp.len
    rw[List.length_cons]at hspl
    have hnew:Txt (z++(Str.ofString " " ++ y)) (lnT f 2 (Hm.LINES.take i)++l.1++chT f (2+n) (l.2.take (j+1))):=by
     rw[tkj,Hm.alq,List.length_take,show min j l.2.length=j by omega,<-List.append_assoc]
     exact hz.append hsp
    have hnl:(z++(Str.ofString " " ++ y)).length=z.length+(Str.ofString " " ++ y).length:=by
     rw[(hz.append hsp).len,List.length_append,<-hz.len,<-hsp.len]
    refine⟨z,_,rfl,rfl,by rw[sizeLine_eq];omega,?_⟩
    refine⟨_,rfl,_,1,rfl,rfl,z++(Str.ofString " " ++ y),some x,?_,rfl,hnew,by omega⟩
    have e:((2+n+j:Nat):Int)+1=((2+n+(j+1):Nat):Int):=by omega
    show[some (.ref a),_,some (V.int (((2+n+j:Nat):Int)+1)),_,_,_]=_
    rw[e]
   ·rintro σ H' ⟨z,v5,rfl,rfl,hz,hzl⟩
    rw[lc,List.take_length]at hz
    rw[lc]at hzl
    refine⟨_,rfl,z,_,rfl,rfl,by show z.length+1<=sizeLine;rw[sizeLine_eq];omega,?_⟩
    have hnl:Txt (z++Str.ofString "\n") ((lnT f 2 (Hm.LINES.take i)++l.1++chT f (2+n) l.2)++[10]):=hz.append (rm (by decide +kernel))
    have hnll:=hnl.len
    rw[List.length_append,<-hz.len]at hnll
    refine⟨z++Str.ofString "\n",some (.str zh),some (.ref cc),v5,?_,rfl,?_,by rw[hnll];show z.length+1<=_;omega⟩
    ·have e2:((Hm.LINES.take (i+1)).flatMap (·.2)).length=n+l.2.length:=by
      rw[tk,List.flatMap_append,List.length_append,hn]
      show n+(l.2++[]).length=_
      rw[List.append_nil]
     rw[e2,lc,show 2+(n+l.2.length)=2+n+l.2.length by omega]
     rfl
    ·rw[tk,Hm.ana,hn]
     simp only[<-List.append_assoc]
     exact hnl
  ·rintro σ H' ⟨z,v3,v4,v5,rfl,rfl,hz,hzl⟩
   rw[hlen,List.take_length]at hz
   have hl6:vsL.length=6:=hlen
   exact⟨_,rfl,q z hz (by omega)⟩
end
theorem ahz:∀(k n:Nat),n<=k->(Tafl.digitsOf n).map UInt8.toNat=TL.abe n
 | k,n,h=>by
  by_cases hn:n<10
  ·rw[Hm.ag2 hn,TL.axb hn]
   show[(UInt8.ofNat (48+n)).toNat]=[48+n]
   rw[UInt8.toNat_ofNat_of_lt' (by show 48+n<256;omega)]
  ·match k,h with
   | 0,h=>omega
   | k+1,h =>
    have ih:=ahz k (n / 10) (by omega)
    have e:10*(n / 10)+n % 10=n:=by omega
    rw[TL.axc (by omega),<-ih,<-congrArg Tafl.digitsOf e,Hm.ag1 (by omega) (by omega),List.map_append]
    congr 1
    show[(UInt8.ofNat (48+n % 10)).toNat]=[48+n % 10]
    rw[UInt8.toNat_ofNat_of_lt' (by show 48+n % 10<256;omega)]
open Hm (Ln xm lnT chT Can wd vd aaj aaz)
theorem akm(n:Nat):Txt (Str.ofString (toString ((n:Nat):Int))) (Tafl.digitsOf n):=(TL.arq n).trans (ahz n n (Nat.le_refl _)).symm
theorem agz{n:Nat}(h:n<10 ^ 20):(Tafl.digitsOf n).length<=20:=by
 have:=congrArg List.length (ahz n n (Nat.le_refl _))
 rw[List.length_map]at this
 rw[this]
 exact TL.axa (by decide) h
theorem aho{n:Nat}(h:n<10 ^ 20):((n:Int)).natAbs.log2<1920:=by
 show n.log2<1920
 by_cases h0:n=0
 ·subst h0
  decide
 ·have:n.log2<1920↔n<2 ^ 1920:=Nat.log2_lt h0
  refine this.mpr (Nat.lt_trans h ?_)
  decide +kernel
theorem alg{W Hh:Nat}(sg:Nat->UInt8)(hw:W<=13)(hh:Hh<=13):(xm W Hh sg).length<=182:=by
 have:(yh W Hh sg Hh).length=Hh*(W+1):=ac3 W Hh sg Hh
 show(yh W Hh sg Hh).length<=182
 rw[this]
 exact Nat.mul_le_mul hh (Nat.add_le_add_right hw 1)
structure agl(nm:Bytes)(f a b c d e:List Nat):Prop where
 n:nm.length<=30000
 fl:f.length<=30000
 f:∀x∈f,x<=4294967295
 la:a.length<=30000
 lb:b.length<=30000
 lc:c.length<=30000
 ld:d.length<=30000
 le:e.length<=30000
def ard:Sp:=λvs H Q _=>∃(n fa ca:Addr) (nm:Bytes) (f a b c d e:List Nat),vs=[.ref n,.ref fa,.ref ca]/\H n=some (.lst (bz nm))/\H fa=some (.lst (du f))/\aab H ca [a,b,c,d,e]/\Can f/\agl nm f a b c d e /\
 ∀H' L,H L=none->H' L=some (.lst (bz (vd nm f a b c d e)))->az H H'->Q (.ref L) H'
theorem at6(qs:List Addr)(h:qs.length=5):m6 (qs.map V.ref) none (some 3)=(qs.take 3).map V.ref:=by
 unfold m6
 have e1:HT.sIx (qs.map V.ref).length 0 none=0:=rfl
 have e2:HT.sIx (qs.map V.ref).length (qs.map V.ref).length (some (3:Int))=3:=by rw[List.length_map,h];rfl
 rw[e1,e2,List.map_take]
 rfl
theorem at4(qs:List Addr)(h:qs.length=5):m6 (qs.map V.ref) (some 3) none=(qs.drop 3).map V.ref:=by
 unfold m6
 have e1:HT.sIx (qs.map V.ref).length 0 (some (3:Int))=3:=by rw[List.length_map,h];rfl
 have e2:HT.sIx (qs.map V.ref).length (qs.map V.ref).length none=(qs.map V.ref).length:=rfl
 rw[e1,e2,List.map_drop,List.take_of_length_le (by rw[List.length_drop];exact Nat.le_refl _)]
theorem an1{α β:Type}{F:α->β->Prop}:∀(n:Nat) {l:List α}{m:List β},Paired F l m->Paired F (l.take n) (m.take n)
 | 0,_,_,_=>by rw[List.take_zero,List.take_zero];exact .nil
 | n+1,_,_,.nil=>.nil
 | n+1,_,_,.cons h t=>.cons h (an1 n t)
theorem anz{α β:Type}{F:α->β->Prop}:∀(n:Nat) {l:List α}{m:List β},Paired F l m->Paired F (l.drop n) (m.drop n)
 | 0,_,_,h=>h
 | n+1,_,_,.nil=>.nil
 | n+1,_,_,.cons _ t=>anz n t
section
variable{P:Program}{w:World}{K:PySem.W.Frag}{mg:Str->Option Value}{base:Heap}
theorem azf{f:Addr}(F:Fn K "written" "written" aj7 ["name", "facts", "cells"] f)(gS:GD P w K mg base CX0 1 "signs_of" ["lists", "signs"] ara)(gB:GD P w K mg base CX0 1 "board_text" ["facts", "board"] aqk)(gL:GD P w K mg base CX0 1 "lines_text" ["facts"] aq0)
  (gY:GD P w K mg base CX0 1 "bytes_of" ["text"] aql) (hG:ux mg "LISTED_GROUND" [83,88,35]) (hS:ux mg "LISTED_START" [104,109]) (hl:mg "len" = none) (h0:fc mg "WIDE" 0) (h1:fc mg "HIGH" 1) (h11:fc mg "LIMIT" 11) (h12:fc mg "KING" 12) :
  Def P w K mg base CX0 2 f ["name", "facts", "cells"] ard:=by
 obtain⟨fS,gS,DS⟩:=gS
 obtain⟨fB,gB,DB⟩:=gB
 obtain⟨fL,gL,DL⟩:=gL
 obtain⟨fY,gY,DY⟩:=gY
 obtain⟨zG,uG,hG,rG,eG⟩:=hG
 obtain⟨zS,uS,hS,rS,eS⟩:=hS
 obtain⟨u0,h0,r0⟩:=h0
 obtain⟨u1,h1,r1⟩:=h1
 obtain⟨u11,h11,r11⟩:=h11
 obtain⟨u12,h12,r12⟩:=h12
 refine F.ok0 ap3 (λvs H Q E h=>?_) (λcdv A outer s H vs Q E hr h=>?_)
 ·obtain⟨n,fa,ca,nm,f,a,b,c,d,e,rfl,_⟩:=h
  rfl
 ·obtain⟨n,fa,ca,nm,f,a,b,c,d,e,rfl,hn,hfa,⟨qs,hq1,hq2⟩,can,inn,q⟩:=h
  have nd:=ap3.nd
  have hfl:=can.len
  have lq:qs.length=5:=je hq2
  refine⟨_,au (cz (i:=3) nd rfl (Or.inl rfl) (gk m8 (pv 1) (di (by rfl) h0 r0) (λ_ _=>rfl)))
   (au (cz (i:=4) nd rfl (Or.inl rfl) (gk m8 (pv 1) (di (by rfl) h1 r1) (λ_ _=>rfl)))
   (au (cz (i:=5) nd rfl (Or.inl rfl) (gk m8 (pv 1) (di (by rfl) h11 r11) (λ_ _=>rfl)))
   (au (cz (i:=6) nd rfl (Or.inl rfl) (d8 DS hr rfl gS bu (aj (adu ad2 (pv 2) aie (abj (jg ac5 (by rfl) hl PySem.boot_len (aj (di (by rfl) hG rG) aq)))) (aj (di (by rfl) hG rG) aq))))
   (au (cz (i:=7) nd rfl (Or.inl rfl) (d8 DS hr rfl gS bu (aj (adu ad2 (pv 2) (abj (jg ac5 (by rfl) hl PySem.boot_len (aj (di (by rfl) hG rG) aq))) aie) (aj (di (by rfl) hS rS) aq))))
   (au (aoi (ab3 hr) (pv 7) (gk m8 (pv 1) (di (by rfl) h12 r12) (λ_ _=>rfl)) gj rfl)
   (au (cz (i:=8) nd rfl (Or.inl rfl) (gw acg (gw acg (gw acg (an5 (aau gj (aau (aia (pv 3)) (aau gj (aau (aia (pv 4)) (aau gj aod)))))) (d8 DB hr rfl gB bu (aj (pv 1) (aj (pv 6) aq)))) gj) (d8 DB hr rfl gB bu (aj (pv 1) (aj (pv 7) aq)))))
   (au (aaw (i:=8) nd rfl (Or.inl rfl) (gw acg (d8 DL hr rfl gL bu (aj (pv 1) aq)) (an5 (aau gj (aau (aia (pv 5)) (aau gj aod))))) ab6)
   (bh (dj (gw ah4 (gw ah4 (d8 DY hr rfl gY bu (aj gj aq)) (pv 0)) (d8 DY hr rfl gY bu (aj (pv 8) aq))))))))))))  ,?_⟩
  have fk:∀k,k<13->(du f)[k]? = some (V.int ((f.getD k 0:Nat):Int)):=λk hk=>ab4 (by omega)
  have bnd:∀k,f.getD k 0<10 ^ 20:=λk=>by
   by_cases hk:k<f.length
   ·have h1:f.getD k 0=f[k]:=by simp[List.getD,hk]
    have h2:=inn.f f[k] (List.getElem_mem hk)
    rw[h1]
    omega
   ·have h1:f.getD k 0=0:=by simp[List.getD,Nat.le_of_not_lt hk]
    rw[h1]
    decide
  have lG:zG.length=3:=Txt.len (rm eG)
  refine⟨_,rfl,fa,_,_,_,rfl,rfl,SqL.of hfa,gr (j:=0) (fk 0 (by decide)),_,rfl,fa,_,_,_,rfl,rfl,SqL.of hfa,gr (j:=1) (fk 1 (by decide)),_,rfl,fa,_,_,_,rfl,rfl,SqL.of hfa,gr (j:=11) (fk 11 (by decide)),?_⟩
  refine⟨_,rfl,_,3,rfl,⟨by rw[lG];decide,lG.symm⟩,_,rfl,ca,_,rfl,SqL.of hq1,λS1 hS1=>?_⟩
  have s1:=dz (o:=.lst (m6 (qs.map V.ref) none (some 3))) (az.refl H) hS1
  have hS1':(upd H S1 (.lst (m6 (qs.map V.ref) none (some 3)))) S1=some (.lst ((qs.take 3).map V.ref)):=by rw[ak,at6 qs lq]
  refine⟨S1,zG,[a,b,c],[83,88,35],rfl,⟨qs.take 3,hS1',m9 (λ_ _ k=>s1 _ _ k) (an1 3 hq2)⟩,eG,by decide,rfl,?_,λH2 g kg hg0 hg hgv hgl s2=>?_⟩
  ·show a.length+(b.length+(c.length+0))<=1000000
   have:=inn.la
   have:=inn.lb
   have:=inn.lc
   omega
  have s02:=s1.trans s2
  refine⟨_,rfl,_,3,rfl,⟨by rw[lG];decide,lG.symm⟩,_,rfl,ca,_,rfl,SqL.of (s02 _ _ hq1),λS2 hS2=>?_⟩
  have s3:=dz (o:=.lst (m6 (qs.map V.ref) (some 3) none)) s02 hS2
  have hS2':(upd H2 S2 (.lst (m6 (qs.map V.ref) (some 3) none))) S2=some (.lst ((qs.drop 3).map V.ref)):=by rw[ak,at4 qs lq]
  refine⟨S2,zS,[d,e],[104,109],rfl,⟨qs.drop 3,hS2',m9 (λ_ _ k=>s3 _ _ k) (anz 3 hq2)⟩,eS,by decide,rfl,?_,λH4 t kt ht0 ht htv htl s4=>?_⟩
  ·show d.length+(e.length+0)<=1000000
   have:=inn.ld
   have:=inn.le
   omega
  have s04:=s3.trans s4
  have hgS:(upd H2 S2 (.lst (m6 (qs.map V.ref) (some 3) none))) g=some (.dK kg):=by rw[ao (bx hg hS2)];exact hg
  have hg4:=s4 _ _ hgS
  have ntg:g≠t:=bx hgS ht0
  have ht0H:H t=none:=s3.free ht0
  refine⟨_,rfl,_,rfl,fa,_,_,_,rfl,rfl,SqL.of (s04 _ _ hfa),gr (j:=12) (fk 12 (by decide)),t,_,rfl,abx.k (k:=Sum.inl ((f.getD 12 0:Nat):Int)) ht (by rw[sizeLine_eq];omega),?_⟩
  have s5:=ji (o:=.dK (putK kt (Sum.inl ((f.getD 12 0:Nat):Int)) (V.str (Str.ofString "K")))) s04 ht0H
  have hw:=can.w
  have hh:=can.h
  have dW:=akm (f.getD 0 0)
  have dH:=akm (f.getD 1 0)
  have dL:=akm (f.getD 11 0)
  have lW:=agz (bnd 0)
  have lH:=agz (bnd 1)
  have lL:=agz (bnd 11)
  have p1:Txt (Str.empty++Str.ofString " ") [32]:=rm (by decide +kernel)
  have p2:=p1.append dW
  have p3:=p2.append (z:=Str.ofString " ") (b:=[32]) (rm (by decide +kernel))
  have p4:=p3.append dH
  have p5:=p4.append (z:=Str.ofString "\nground\n") (b:=Tafl.ascii "\nground\n") (rm (by decide +kernel))
  have a9:(Tafl.ascii "\nground\n").length=8:=by decide +kernel
  have a6:(Tafl.ascii "start\n").length=6:=by decide +kernel
  have a7:(Tafl.ascii "limit ").length=6:=by decide +kernel
  have a5:(Tafl.ascii "tafl ").length=5:=by decide +kernel
  have l5:=p5.len
  simp only[List.length_append,List.length_cons,List.length_nil,a9]at l5
  have le_:∀{z:Str}{b:Bytes},Txt z b->b.length<=100000->z.length<=sizeLine:=λh k=>by rw[h.len,sizeLine_eq];omega
  refine⟨_,rfl,le_ p1 (by decide),_,rfl,_,rfl,aho (bnd 0),_,rfl,le_ p2 (by simp only[List.length_append,List.length_cons,List.length_nil];omega),_,rfl,le_ p3 (by simp only[List.length_append,List.length_cons,List.length_nil];omega),
   _,rfl,_,rfl,aho (bnd 1),_,rfl,le_ p4 (by simp only[List.length_append,List.length_cons,List.length_nil];omega),_,rfl,le_ p5 (by simp only[List.length_append,List.length_cons,List.length_nil,a9];omega),le_ p5 (by simp only[List.length_append,List.length_cons,List.length_nil,a9];omega),?_⟩
  refine⟨_,rfl,_,rfl,fa,g,f,kg,aaj a b c,rfl,s5 _ _ hfa,can,by rw[ao ntg];exact hg4,λx=>?_,λH6 z6 s6 t6=>?_⟩
  ·rw[hgv]
   show(Option.map (λs=>V.str (sgn s)) (if x∈c then some 35 else if x∈b then some 88 else if x∈a then some 83 else none)).getD _=_
   unfold aaj
   split
   ·rfl
   ·split
    ·rfl
    ·split<;>rfl
  have b6:=alg (aaj a b c) hw.2 hh.2
  have p6:=p5.append t6
  have p7:=p6.append (z:=Str.ofString "start\n") (b:=Tafl.ascii "start\n") (rm (by decide +kernel))
  refine⟨_,_,rfl,rfl,by rw[<-Str.length_append];exact le_ p6 (by simp only[List.length_append,List.length_cons,List.length_nil,a9];omega),?_⟩
  have s06:=s5.trans s6
  have ht5:(upd H4 t (.dK (putK kt (Sum.inl ((f.getD 12 0:Nat):Int)) (V.str (Str.ofString "K"))))) t=some (.dK (putK kt (Sum.inl ((f.getD 12 0:Nat):Int)) (V.str (Str.ofString "K")))):=ak
  refine⟨_,_,rfl,rfl,by rw[<-Str.length_append];exact le_ p7 (by simp only[List.length_append,List.length_cons,List.length_nil,a9,a6];omega),?_⟩
  refine⟨_,rfl,_,rfl,fa,t,f,_,aaz (f.getD 12 0) d e,rfl,s06 _ _ hfa,can,s6 _ _ ht5,λx=>?_,λH8 z8 s8 t8=>?_⟩
  ·rw[ar8,htv]
   unfold aaz
   by_cases hx:x=f.getD 12 0
   ·rw[if_pos (by rw[hx]),if_pos hx,abq]
    rfl
   ·rw[if_neg (λz=>hx (by injection z with z;omega)),if_neg hx]
    show(Option.map (λs=>V.str (sgn s)) (if x∈e then some 109 else if x∈d then some 104 else none)).getD _=_
    split
    ·rfl
    ·split<;>rfl
  have b8:=alg (aaz (f.getD 12 0) d e) hw.2 hh.2
  have p8:=p7.append t8
  have s08:=s06.trans s8
  refine⟨_,_,rfl,rfl,by rw[<-Str.length_append];exact le_ p8 (by simp only[List.length_append,List.length_cons,List.length_nil,a9,a6];omega),?_⟩
  refine⟨_,rfl,_,rfl,fa,f,rfl,s08 _ _ hfa,can,λz9 t9 l9=>?_⟩
  have l9':(lnT f 2 Hm.LINES).length<=2000:=by rw[<-t9.len];exact l9
  have r1:Txt (Str.empty++Str.ofString "limit ") (Tafl.ascii "limit "):=rm (by decide +kernel)
  have r2:=r1.append dL
  have r3:=r2.append (z:=Str.ofString "\n") (b:=[10]) (rm (by decide +kernel))
  refine⟨_,rfl,le_ r1 (by rw[a7];decide),_,rfl,_,rfl,aho (bnd 11),_,rfl,le_ r2 (by simp only[List.length_append,a7];omega),_,rfl,le_ r3 (by simp only[List.length_append,List.length_cons,List.length_nil,a7];omega),le_ r3 (by simp only[List.length_append,List.length_cons,List.length_nil,a7];omega),?_⟩
  have p9:=t9.append r3
  refine⟨_,_,rfl,rfl,by rw[<-Str.length_append];exact le_ p9 (by simp only[List.length_append,List.length_cons,List.length_nil,a7];omega),?_⟩
  have p10:=p8.append p9
  refine⟨_,_,rfl,rfl,by rw[<-Str.length_append];exact le_ p10 (by simp only[List.length_append,List.length_cons,List.length_nil,a9,a6,a7];omega),?_⟩
  refine⟨_,Tafl.ascii "tafl ",rfl,rm (by decide +kernel),by rw[a5];decide,λL1 hL1=>?_⟩
  have t1:=dz (o:=.lst (bz (Tafl.ascii "tafl "))) s08 hL1
  have nm1:=inn.n
  refine⟨_,rfl,L1,n,_,_,rfl,rfl,ak,t1 _ _ hn,by rw[uf,uf,a5,sizeLine_eq];omega,λL2' hL2=>?_⟩
  have t2:=dz (o:=.lst (bz (Tafl.ascii "tafl ")++bz nm)) t1 hL2
  refine⟨_,rfl,_,_,rfl,p10,by simp only[List.length_append,List.length_cons,List.length_nil,a9,a6,a7];omega,λL3 hL3=>?_⟩
  have n23:L2'≠L3:=bx ak hL3
  have t3:∀o,az H (upd (upd (upd H8 L1 (.lst (bz (Tafl.ascii "tafl ")))) L2' (.lst (bz (Tafl.ascii "tafl ")++bz nm))) L3 o):=λo=>dz t2 hL3
  refine⟨L2',L3,_,_,rfl,rfl,by rw[ao n23,ak],ak,?_,λL4 hL4=>?_⟩
  ·rw[List.length_append,uf,uf,uf,a5,sizeLine_eq]
   simp only[List.length_append,List.length_cons,List.length_nil,a9,a6,a7]
   omega
  ·refine q _ L4 (az.free (t3 _) hL4) ?_ (dz (t3 _) hL4)
   rw[ak]
   unfold vd bz
   simp only[List.map_append,List.append_assoc]
end
open Hm (Can vd rn wg told yj)
open TaflRules (factsOf cellsBy)
def km(ns:List Int):PyData:=.list (ns.map PyData.int)
theorem alz{K:PySem.W.Frag}{H:Hp}:∀ns:List Int,aa5 K H (ns.map V.int) (ns.map PyData.int)
 | []=>.nil
 | n::ns=>.cons (.int n) (alz ns)
theorem ac8{K:PySem.W.Frag}{H:Hp}{a:Addr}{ns:List Int}(h:H a=some (.lst (ns.map V.int))):Dp K H (.ref a) (km ns):=.lst (SqL.of h) (alz ns)
theorem al5:∀xs ys:List Int,PyData.eqvAll (xs.map PyData.int) (ys.map PyData.int)=decide (xs=ys)
 | [],[]=>rfl
 | [],y::ys=>rfl
 | x::xs,[]=>rfl
 | x::xs,y::ys=>by
  show((x==y)&&PyData.eqvAll (xs.map PyData.int) (ys.map PyData.int))=_
  rw[al5 xs ys,Bool.eq_iff_iff]
  simp
theorem ag3(xs ys:List Int):PyData.eqv (km xs) (km ys)=decide (xs=ys):=al5 xs ys
theorem ahk:∀xs:List Int,PyData.canLayAll0 (xs.map PyData.int)=true
 | []=>rfl
 | x::xs=>by
  show(true&&PyData.canLayAll0 (xs.map PyData.int))=true
  rw[ahk xs]
  rfl
theorem agy:∀xs:List Int,PyData.depthAll (xs.map PyData.int)=0
 | []=>rfl
 | x::xs=>by
  show max 0 (PyData.depthAll (xs.map PyData.int))=0
  rw[agy xs]
  rfl
theorem shaped_ints(xs:List Int):SeqAt.shaped (km xs)=true:=by
 show(PyData.canLayAll0 (xs.map PyData.int)&&decide (PyData.depthAll (xs.map PyData.int)+1<=64))=true
 rw[ahk,agy]
 rfl
def ab1(ll:List (List Nat)):PyData:=.list (ll.map λl=>km (Tafl.asInts l))
theorem al0{K:PySem.W.Frag}{H:Hp}{a:Addr}{ll:List (List Nat)}(h:aab H a ll):Dp K H (.ref a) (ab1 ll):=by
 obtain⟨qs,h1,h2⟩:=h
 refine .lst (SqL.of h1) ?_
 clear h1
 induction h2 with
 | nil=>exact .nil
 | cons k t ih=>exact .cons (ac8 (by rw[aal];exact k)) ih
theorem agn:∀{l m:List Nat},Tafl.asInts l=Tafl.asInts m->l=m
 | [],[],_=>rfl
 | [],_::_,h=>by cases h
 | _::_,[],h=>by cases h
 | x::l,y::m,h=>by
  have h:((x:Nat):Int)::Tafl.asInts l=((y:Nat):Int)::Tafl.asInts m:=h
  injection h with h1 h2
  rw[agn h2,show x=y by omega]
theorem al6:∀ll mm:List (List Nat),PyData.eqvAll (ll.map λl=>km (Tafl.asInts l)) (mm.map λl=>km (Tafl.asInts l))=decide (ll=mm)
 | [],[]=>rfl
 | [],_::_=>rfl
 | _::_,[]=>rfl
 | l::ll,m::mm=>by
  show(PyData.eqv (km (Tafl.asInts l)) (km (Tafl.asInts m))&&PyData.eqvAll (ll.map λl=>km (Tafl.asInts l)) (mm.map λl=>km (Tafl.asInts l)))=_
  rw[al6 ll mm,ag3,Bool.eq_iff_iff]
  simp only[Bool.and_eq_true,decide_eq_true_eq,List.cons.injEq]
  exact⟨λz=>⟨agn z.1,z.2⟩,λz=>⟨congrArg _ z.1,z.2⟩⟩
theorem aqa(ll:List (List Nat)):SeqAt.shaped (ab1 ll)=true:=by
 have h1:PyData.canLayAll0 (ll.map λl=>km (Tafl.asInts l))=true:=by
  induction ll with
  | nil=>rfl
  | cons l ll ih =>
   show(PyData.canLayAll0 ((Tafl.asInts l).map PyData.int)&&PyData.canLayAll0 (ll.map λl=>km (Tafl.asInts l)))=true
   rw[ahk,ih]
   rfl
 have h2:PyData.depthAll (ll.map λl=>km (Tafl.asInts l))<=1:=by
  induction ll with
  | nil=>exact Nat.zero_le _
  | cons l ll ih =>
   show max (PyData.depthAll ((Tafl.asInts l).map PyData.int)+1) (PyData.depthAll (ll.map λl=>km (Tafl.asInts l)))<=1
   rw[agy]
   exact Nat.max_le.mpr ⟨Nat.le_refl _,ih (by
    have h1':(PyData.canLayAll0 ((Tafl.asInts l).map PyData.int)&&PyData.canLayAll0 (ll.map λl=>km (Tafl.asInts l)))=true:=h1
    exact(Bool.and_eq_true_iff.mp h1').2)⟩
 show(PyData.canLayAll0 (ll.map λl=>km (Tafl.asInts l))&&decide (PyData.depthAll (ll.map λl=>km (Tafl.asInts l))+1<=64))=true
 rw[h1,decide_eq_true (by omega)]
 rfl
def bInts(b:Bytes):List Int:=b.map λx=>(x.toNat:Int)
theorem ac4(b:Bytes):bz b=(bInts b).map V.int:=by
 unfold bz bInts
 rw[List.map_map]
 rfl
theorem ak5:∀{b c:Bytes},bInts b=bInts c->b=c
 | [],[],_=>rfl
 | [],_::_,h=>by cases h
 | _::_,[],h=>by cases h
 | x::b,y::c,h=>by
  have h:((x.toNat:Nat):Int)::bInts b=((y.toNat:Nat):Int)::bInts c:=h
  injection h with h1 h2
  rw[ak5 h2,UInt8.toNat_inj.mp (show x.toNat=y.toNat by omega)]
def asr(NT:Addr)(E:XK)(G:Hp->Prop):Prop:=∀dx l H',H' dx=some (.xd [("told",.ref l)])->H' l=some (.lst [.int (-8)])->G H'->E (.ref NT) (some dx) H'/\E (late NT) (some dx) H'
theorem adk{C e dx l:Addr}{H:Hp}{T:List V}(hne:H e=none)(g1:(upd H e (.ext (my e C))) l=none)(g2:(upd H e (.ext (my e C))) dx=none)(g3:dx≠l)(x:HO):
  (upd (upd (upd (upd (upd H e (.ext (my e C))) l (.lst T)) dx (.xd [("told",.ref l)])) e (.ext (mq e C dx))) e x) dx=some (.xd [("told",.ref l)]) /\
  (upd (upd (upd (upd (upd H e (.ext (my e C))) l (.lst T)) dx (.xd [("told",.ref l)])) e (.ext (mq e C dx))) e x) l=some (.lst T) /\
  az H (upd (upd (upd (upd (upd H e (.ext (my e C))) l (.lst T)) dx (.xd [("told",.ref l)])) e (.ext (mq e C dx))) e x):=by
 have nl:l≠e:=λz=>by rw[z,ak]at g1;cases g1
 have nd:dx≠e:=λz=>by rw[z,ak]at g2;cases g2
 refine⟨by rw[ao nd,ao nd,ak],by rw[ao nl,ao nl,ao (Ne.symm g3),ak],λb o hb=>?_⟩
 have be:b≠e:=bx hb hne
 have hb1:(upd H e (.ext (my e C))) b=some o:=by rw[ao be];exact hb
 rw[ao be,ao be,ao (bx hb1 g2),ao (bx hb1 g1)]
 exact hb1
structure NTd(P:Program)(w:World)(K:PySem.W.Frag)(mg:Str->Option Value)(base:Heap)(NT:Addr):Prop where
 make:∃f,XMk K NT f/\yd P w K mg base CX0 2 f ["self"] (uv K NT 0 λ_=>[.int (-8)])
 xa:ni K NT "told"
 at_:mg "NoText" = some (.ref NT)
def aq2(CR NT:Addr):Sp:=λvs H Q E=>∃(n fa ca:Addr) (nm:Bytes) (f a b c d e:List Nat),vs=[.ref n,.ref fa,.ref ca]/\H n=some (.lst (bz nm))/\H fa=some (.lst (du f))/\aab H ca [a,b,c,d,e]/\agl nm f a b c d e /\
 (match wg nm f a b c d e with
  | some t=>∀H' x r,H x=none->ue CR H' x r t->az H H'->Q (.ref x) H'
  | none=>asr NT E (az H))
section
variable{P:Program}{w:World}{K:PySem.W.Frag}{mg:Str->Option Value}{base:Heap}
theorem ayq{f CR TF NT:Addr}(F:Fn K "made_rules" "made_rules" ajy ["name", "facts", "cells"] f)(TR:RlT K CR)(gC:GD P w K mg base CX0 2 "can_be_written" ["facts"] aqm)(gW:GD P w K mg base CX0 2 "written" ["name", "facts", "cells"] ard)
  (gR:GD P w K mg base (XC P w) 8 "rules_of" ["codes"] (ake CR TF)) (ND:NTd P w K mg base NT) (hTF:mg "TextFault" = some (.ref TF)) (hex:PySem.W.exmOne K (.ref TF) (.ref TF)=some true) :
  Def P w K mg base (XC P w) 9 f ["name", "facts", "cells"] (aq2 CR NT):=by
 obtain⟨fC,gC,DC⟩:=gC
 obtain⟨fW,gW,DW⟩:=gW
 obtain⟨fR,gR,DR⟩:=gR
 obtain⟨⟨fN,MN,DN⟩,xN,hN⟩:=ND
 refine F.okX apu (λvs H Q E h=>?_) (λcdv A outer s H vs Q E hr h=>?_)
 ·obtain⟨n,fa,ca,nm,f,a,b,c,d,e,rfl,_⟩:=h
  rfl
 ·obtain⟨n,fa,ca,nm,f,a,b,c,d,e,rfl,hn,hfa,hca,inn,q⟩:=h
  have nd:=apu.nd
  have hr2:=hr.mono (j:=2) (by decide)
  have hr3:=hr.mono (j:=3) (by decide)
  refine⟨_,au (jl (u9 (uc (d8 DC hr2 rfl gC bu (aj (pv 1) aq)))) (bh (wk rfl wz (abh MN DN.d hr3 rfl hN (by decide) bu))) jq)
   (au (a0m rfl rfl hTF (λpl E' EX hp=>bh (cz (i:=3) nd rfl (Or.inl rfl) (d8 DR hr rfl gR hp (aj (d8 DW hr2 rfl gW bu (aj (pv 0) (aj (pv 1) (aj (pv 2) aq)))) aq))))
    (λe E'=>azr MN DN (j9.of hr3).mark rfl hN (by decide) bu) a4a rfl rfl)
   (au (jl (PW.pt (yu (iy (ah6 hr.units) (dw (pv 3) rfl) (pv 0) (gf _)) (yu (iy (ah6 hr.units) (dw (pv 3) rfl) (pv 1) (gf _)) (ack (iy (ah6 hr.units) (dw (pv 3) rfl) (pv 2) (gf _))))))
    (bh (wk rfl wz (abh MN DN.d hr3 rfl hN (by decide) bu))) jq)
   (bh (dj (pv 3))))),?_⟩
  have refuse:∀{H1:Hp}{σ:L2.St}{D:Ends},az H H1->wg nm f a b c d e=none->abv K E (wy NT (uv K NT 0 λ_=>[.int (-8)]) E0 jb) D σ H1:=λ{H1 σ D} s1 hnone=>by
   rw[hnone]at q
   refine λe hne=>⟨e,[],rfl,rfl,ak,xN,λdx l g1 g2 g3=>⟨rfl,e,NT,dx,rfl,ak,MN.xc,?_⟩⟩
   obtain⟨k1,k2,k3⟩:=adk (T:=[.int (-8)]) hne g1 g2 g3 (.ext (il e NT dx))
   exact(q dx l _ k1 k2 (s1.trans k3)).1
  refine⟨_,rfl,fa,f,rfl,hfa,λH1 s1=>⟨_,rfl,?_⟩⟩
  cases hc:rn f with
  | false=>exact d9 (refuse s1 (by unfold wg;rw[hc];rfl))
  | true =>
  refine gh ?_
  have can:=(Hm.ael f).mp hc
  refine⟨λcv dx H'=>cv=.ref TF/\az H H'/\wg nm f a b c d e=none,?_,?_,?_⟩
  ·refine⟨_,rfl,_,rfl,_,rfl,n,fa,ca,nm,f,a,b,c,d,e,rfl,s1 _ _ hn,s1 _ _ hfa,hca.same s1,can,inn,λH2 L _ hL s2=>?_⟩
   have s02:=s1.trans s2
   refine⟨L,vd nm f a b c d e,rfl,hL,?_⟩
   cases hj:Tafl.judge (vd nm f a b c d e)with
   | error kp =>
    obtain⟨k,p⟩:=kp
    exact λdx l H' _ _ s'=>⟨rfl,s02.trans s',by unfold wg;rw[if_pos hc,hj]⟩
   | ok r =>
    intro H3 x hx0 hR s3
    have s03:=s02.trans s3
    have hR0:=hR
    obtain⟨dx,t,n',f',c',g,k1,k2,k3,k4,k5,k6⟩:=hR
    have em:wg nm f a b c d e=if told r nm f a b c d e then some (vd nm f a b c d e)else none:=by unfold wg;rw[if_pos hc,hj]
    refine⟨_,rfl,x,CR,dx,_,_,rfl,k1,TR.cl,TR.nName,rfl,_,rfl,km (bInts r.name),km (bInts nm),ac8 (by rw[<-ac4];exact k3),ac8 (by rw[<-ac4];exact s03 _ _ hn),shaped_ints _,shaped_ints _,_,rfl,?_⟩
    rw[ag3]
    by_cases t1:r.name=nm
    case neg =>
     rw[decide_eq_false (λz=>t1 (ak5 z))]
     exact d9 (d9 (refuse s03 (by rw[em,if_neg (λz=>t1 z.1)])))
    rw[decide_eq_true (congrArg bInts t1)]
    refine gh ⟨_,rfl,x,CR,dx,_,_,rfl,k1,TR.cl,TR.nFacts,rfl,_,rfl,km (Tafl.asInts (factsOf r)),km (Tafl.asInts f),ac8 (by rw[aal];exact k4),ac8 (by rw[aal];exact s03 _ _ hfa),shaped_ints _,shaped_ints _,_,rfl,?_⟩
    rw[ag3]
    by_cases t2:factsOf r=f
    case neg =>
     rw[decide_eq_false (λz=>t2 (agn z))]
     exact d9 (d9 (refuse s03 (by rw[em,if_neg (λz=>t2 z.2.1)])))
    rw[decide_eq_true (congrArg Tafl.asInts t2)]
    refine gh ⟨_,rfl,x,CR,dx,_,_,rfl,k1,TR.cl,TR.nCells,rfl,_,rfl,ab1 (yj r),ab1 [a,b,c,d,e],al0 k5.weak,al0 (hca.same s03),aqa _,aqa _,_,rfl,?_⟩
    rw[show PyData.eqv (ab1 (yj r)) (ab1 [a,b,c,d,e])=decide (yj r=[a,b,c,d,e]) from al6 _ _]
    by_cases t3:yj r=[a,b,c,d,e]
    case neg =>
     rw[decide_eq_false t3]
     exact d9 (refuse s03 (by rw[em,if_neg (λz=>t3 z.2.2)]))
    rw[decide_eq_true t3]
    refine gh ?_
    rw[em,if_pos ⟨t1,t2,t3⟩]at q
    exact⟨_,rfl,q H3 x r (s02.free hx0) hR0 s03⟩
  ·rintro C dx H' ⟨z,_⟩
   cases z
  ·rintro e0 C dx H' ⟨z,s',hnone⟩ he0
   cases z
   rw[hnone]at q
   refine⟨hex,λe hne=>?_⟩
   have ne0:e0≠e:=λz=>by rw[<-z,ak]at hne;cases hne
   refine⟨e,[],rfl,rfl,ak,xN,λdx2 l g1 g2 g3=>⟨rfl,e,NT,dx2,rfl,ne0,?_,ak,MN.xc,?_⟩⟩
   ·have k:=(adk (T:=[.int (-8)]) hne g1 g2 g3 (.ext (mq e NT dx2))).2.2 e0 _ ak
    rw[yz]at k
    exact k
   ·obtain⟨k1,k2,k3⟩:=adk (T:=[.int (-8)]) hne g1 g2 g3 (.ext (mq e NT dx2))
    rw[yz]at k1 k2 k3
    have nl:l≠e:=λz=>by rw[z,ak]at g1;cases g1
    have nd2:dx2≠e:=λz=>by rw[z,ak]at g2;cases g2
    have he1:(upd (upd H' e0 (.ext (xg e0 TF dx))) e (.ext (my e NT))) e0=some (.ext (xg e0 TF dx)):=by rw[ao ne0,ak]
    have nl0:l≠e0:=Ne.symm (bx he1 g1)
    have nd0:dx2≠e0:=Ne.symm (bx he1 g2)
    refine(q dx2 l _ (by rw[ao nd2,ao nd0];exact k1) (by rw[ao nl,ao nl0];exact k2) λx o hx=>?_).2
    have hx':=s' x o hx
    by_cases x0:x=e0
    ·subst x0
     rw[ao ne0,ak,<-hx',he0]
    ·have hx2:(upd H' e0 (.ext (xg e0 TF dx))) x=some o:=by rw[ao x0];exact hx'
     rw[ao (bx hx2 hne),ao x0]
     exact k3 x o hx2
end
theorem zu{K:PySem.W.Frag}{q a C dx:Addr}{H H':Hp}{xs:List V}{fs:List (Str×V)}(h:SqL K H a xs)(k:But q H H')(hq:H q=some (.ins C dx fs)):SqL K H' a xs:=by
 rcases h with (h | ⟨o,h⟩) | h
 ·exact .inl (.inl (k _ _ h (gb h hq (by intro z;cases z))))
 ·exact .inl (.inr ⟨o,k _ _ h (gb h hq (by intro z;cases z))⟩)
 ·exact .inr h
def o8(CH CR:Addr)(H:Hp)(h:Addr)(s:Option Rules):Prop:=match s with
 | none=>∃dx,H h=some (.ins CH dx [("rules",.non)])
 | some r=>∃dx x b,H h=some (.ins CH dx [("rules",.ref x)])/\ue CR H x r b/\Tafl.judge b=.ok r/\b.length<=30000
theorem o8.ins{CH CR:Addr}{H:Hp}{h:Addr}{s:Option Rules}(k:o8 CH CR H h s):∃dx fs,H h=some (.ins CH dx fs):=by
 cases s with
 | none=>obtain⟨dx,k⟩:=k;exact⟨dx,_,k⟩
 | some r=>obtain⟨dx,x,b,k,_⟩:=k;exact⟨dx,_,k⟩
theorem o8.same{CH CR:Addr}{H H':Hp}{h:Addr}{s:Option Rules}(k:o8 CH CR H h s)(e:az H H'):o8 CH CR H' h s:=by
 cases s with
 | none=>obtain⟨dx,k⟩:=k;exact⟨dx,e _ _ k⟩
 | some r=>obtain⟨dx,x,b,k1,k2,k3⟩:=k;exact⟨dx,x,b,e _ _ k1,k2.same e,k3⟩
def qf(a:Addr)(p:Nat):List (Str×V):=[("calls",.ref a),("taken",.int (p:Int))]
def QAt(CQ:Addr)(H:Hp)(q a:Addr)(p:Nat):Prop:=∃dx,H q=some (.ins CQ dx (qf a p))
structure HlT(K:PySem.W.Frag)(C:Addr):Prop where
 cl:Cls K C
 nRules:jn K C "rules"
structure QuT(K:PySem.W.Frag)(C:Addr):Prop where
 cl:Cls K C
 nCalls:jn K C "calls"
 nTaken:jn K C "taken"
theorem ue.but{CR CQ:Addr}{H H':Hp}{x q dq:Addr}{r:Rules}{b:Bytes}{fs:List (Str×V)}(h:ue CR H x r b)(k:But q H H')(hq:H q=some (.ins CQ dq fs))(n:CR≠CQ):ue CR H' x r b:=by
 obtain⟨dx,t,nn,f,c,g,h1,h2,h3,h4,⟨qs,h5,h6⟩,h7⟩:=h
 have kk:∀{L:Addr}{o:HO},H L=some o->(∀C d fs,o≠.ins C d fs)->H' L=some o:=λe nz=>k _ _ e (gb e hq (nz _ _ _))
 refine⟨dx,t,nn,f,c,g,k _ _ h1 (gb h1 hq (by intro z;cases z;exact n rfl)),kk h2 (by intro _ _ _ z;cases z),kk h3 (by intro _ _ _ z;cases z),kk h4 (by intro _ _ _ z;cases z),⟨qs,kk h5 (by intro _ _ _ z;cases z),m9 (λp l z=>⟨z.1,kk z.2 (by intro _ _ _ z;cases z)⟩) h6⟩,kk h7 (by intro _ _ _ z;cases z)⟩
theorem o8.but{CH CR CQ:Addr}{H H':Hp}{h q dq:Addr}{s:Option Rules}{fs:List (Str×V)}(k:o8 CH CR H h s)(e:But q H H')(hq:H q=some (.ins CQ dq fs))(n:CR≠CQ)(nh:h≠q):o8 CH CR H' h s:=by
 cases s with
 | none=>obtain⟨dx,k⟩:=k;exact⟨dx,e _ _ k nh⟩
 | some r=>obtain⟨dx,x,b,k1,k2,k3⟩:=k;exact⟨dx,x,b,e _ _ k1 nh,k2.but e hq n,k3⟩
def ToldN(C:Addr)(E:XK)(T:List V)(G:Hp->Prop):Prop:=∀dx l H',H' dx=some (.xd [("told",.ref l)])->H' l=some (.lst T)->G H'->E (.ref C) (some dx) H'
structure Rfd(P:Program)(w:World)(K:PySem.W.Frag)(mg:Str->Option Value)(base:Heap)(x:Str)(C:Addr)(T:List V):Prop where
 make:∃f,XMk K C f/\Def P w K mg base CX0 2 f ["self"] (uv K C 0 λ_=>T)
 xa:ni K C "told"
 at_:mg x=some (.ref C)
def aqx(C:Addr):Sp:=λvs H Q _=>∃(x dx:Addr),vs=[.ref x]/\H x=some (.ins C dx [])/\Q .non (upd H x (.ins C dx [("rules",.non)]))
def aq5(C:Addr):Sp:=λvs H Q _=>∃(x dx a:Addr),vs=[.ref x,.ref a]/\H x=some (.ins C dx [])/\Q .non (upd (upd H x (.ins C dx [("calls",.ref a)])) x (.ins C dx (qf a 0)))
def aa0(CH CR NR:Addr):Sp:=λvs H Q E=>∃(h:Addr) (s:Option Rules),vs=[.ref h]/\o8 CH CR H h s/\(match s with | none=>ToldN NR E [.int (-3)] (az H) | some r=>∀x b,ue CR H x r b->Tafl.judge b=.ok r/\b.length<=30000->Q (.ref x) H)
def aqv(K:PySem.W.Frag)(CQ:Addr):Sp:=λvs H Q _=>∃(q a:Addr) (p:Nat) (l:List Int),vs=[.ref q]/\QAt CQ H q a p/\SqL K H a (l.map V.int)/\Q (.bl (decide (p<l.length))) H
def abt(K:PySem.W.Frag)(CQ:Addr):Sp:=λvs H Q _=>∃(q a:Addr) (p:Nat) (l:List Int) (n:Int),vs=[.ref q]/\QAt CQ H q a p/\SqL K H a (l.map V.int)/\l[p]? = some n/\∀H',QAt CQ H' q a (p+1)->But q H H'->Q (.int n) H'
def akg(K:PySem.W.Frag)(CQ:Addr):Sp:=λvs H Q _=>∃(q a:Addr) (p m:Nat) (l:List Int),vs=[.ref q]/\QAt CQ H q a p/\SqL K H a (l.map V.int)/\l[p]? = some (m:Int)/\p+1+m<=l.length /\
 ∀H' L,H L=none->H' L=some (.lst (((l.drop (p+1)).take m).map V.int))->QAt CQ H' q a (p+1+m)->But q H H'->Q (.ref L) H'
def abr:Sp:=λvs H Q _=>∃(a:Addr) (xs:List V),vs=[.ref a]/\H a=some (.lst xs)/\xs.length<=1000000/\∀H' L,H L=none->H' L=some (.lst ([.int 0,.int (xs.length:Int)]++xs))->az H H'->Q (.ref L) H'
section
variable{P:Program}{w:World}{K:PySem.W.Frag}{mg:Str->Option Value}{base:Heap}
theorem axi{f C:Addr}(F:Fn K "__init__" "Hall.__init__" air ["self"] f)(T:HlT K C):Def P w K mg base CX0 1 f ["self"] (aqx C):=by
 refine F.ok0 a1c (λvs H Q E h=>?_) (λcdv A outer s H vs Q E hr h=>?_)
 ·obtain⟨x,dx,rfl,_⟩:=h
  rfl
 ·obtain⟨x,dx,rfl,h1,q⟩:=h
  exact⟨_,bh (jw (pv 0) an6 rfl),_,rfl,x,C,dx,_,rfl,h1,T.cl,T.nRules,by decide,q⟩
theorem axm{f C:Addr}(F:Fn K "__init__" "Queue.__init__" aix ["self", "calls"] f)(T:QuT K C):Def P w K mg base CX0 1 f ["self", "calls"] (aq5 C):=by
 refine F.ok0 a1i (λvs H Q E h=>?_) (λcdv A outer s H vs Q E hr h=>?_)
 ·obtain⟨x,dx,a,rfl,_⟩:=h
  rfl
 ·obtain⟨x,dx,a,rfl,h1,q⟩:=h
  refine⟨_,au (jw (pv 0) (pv 1) rfl) (bh (jw (pv 0) dm rfl)),?_⟩
  exact⟨_,rfl,_,rfl,x,C,dx,_,rfl,h1,T.cl,T.nCalls,by decide,_,rfl,x,C,dx,_,rfl,ak,T.cl,T.nTaken,by show 1<1000;decide,q⟩
theorem aym{f CH CR NR:Addr}(F:Fn K "known_rules" "Hall.known_rules" ais ["self"] f)(T:HlT K CH)(NRd:Rfd P w K mg base "NoRules" NR [.int (-3)]):Def P w K mg base (XC P w) 4 f ["self"] (aa0 CH CR NR):=by
 obtain⟨⟨fN,MN,DN⟩,xN,hN⟩:=NRd
 refine F.okX a1d (λvs H Q E h=>?_) (λcdv A outer s H vs Q E hr h=>?_)
 ·obtain⟨h,s,rfl,_⟩:=h
  rfl
 ·obtain⟨h,st,rfl,hh,q⟩:=h
  have hr3:=hr.mono (j:=3) (by decide)
  refine⟨_,au (jl (iy azm (dw (pv 0) rfl) an6 (gf _)) (bh (wk rfl wz (abh MN DN hr3 rfl hN (by decide) bu))) jq) (bh (dj (dw (pv 0) rfl))),?_⟩
  cases st with
  | none =>
   obtain⟨dx,h1⟩:=hh
   refine⟨_,rfl,h,CH,dx,_,_,rfl,h1,T.cl,T.nRules,rfl,rfl,_,rfl,d9 ?_⟩
   refine λe hne=>⟨e,[],rfl,rfl,ak,xN,λdx2 l g1 g2 g3=>⟨rfl,e,NR,dx2,rfl,ak,MN.xc,?_⟩⟩
   obtain⟨k1,k2,k3⟩:=adk (T:=[.int (-3)]) hne g1 g2 g3 (.ext (il e NR dx2))
   exact q dx2 l _ k1 k2 k3
  | some r =>
   obtain⟨dx,x,b,h1,h2,h3⟩:=hh
   exact⟨_,rfl,h,CH,dx,_,_,rfl,h1,T.cl,T.nRules,rfl,rfl,_,rfl,gh ⟨_,rfl,h,CH,dx,_,_,rfl,h1,T.cl,T.nRules,rfl,q x b h2 h3⟩⟩
theorem ayh{f CQ:Addr}(F:Fn K "has_more" "Queue.has_more" aiw ["self"] f)(T:QuT K CQ)(hl:mg "len" = none):Def P w K mg base CX0 1 f ["self"] (aqv K CQ):=by
 refine F.ok0 a1h (λvs H Q E h=>?_) (λcdv A outer s H vs Q E hr h=>?_)
 ·obtain⟨q,a,p,l,rfl,_⟩:=h
  rfl
 ·obtain⟨qq,a,p,l,rfl,⟨dx,h1⟩,hs,q⟩:=h
  refine⟨_,bh (dj (tu zq (dw (pv 0) rfl) (jg xn (by rfl) hl PySem.boot_len (aj (dw (pv 0) rfl) aq)) (gf _))),?_⟩
  refine⟨_,rfl,qq,CQ,dx,_,.int p,rfl,h1,T.cl,T.nTaken,rfl,_,rfl,qq,CQ,dx,_,.ref a,rfl,h1,T.cl,T.nCalls,rfl,a,_,rfl,.inl hs,_,_,rfl,rfl,?_⟩
  dsimp only
  rw[List.length_map,dLt (p:=p<l.length) (by omega)]
  exact q
theorem ay7{f CQ:Addr}(F:Fn K "take_number" "Queue.take_number" aiy ["self"] f)(T:QuT K CQ):Def P w K mg base CX0 1 f ["self"] (abt K CQ):=by
 refine F.ok0 ao0 (λvs H Q E h=>?_) (λcdv A outer s H vs Q E hr h=>?_)
 ·obtain⟨q,a,p,l,n,rfl,_⟩:=h
  rfl
 ·obtain⟨qq,a,p,l,n,rfl,⟨dx,h1⟩,hs,hn,q⟩:=h
  have nd:=ao0.nd
  refine⟨_,au (cz (i:=1) nd rfl (Or.inl rfl) (gk m8 (dw (pv 0) rfl) (dw (pv 0) rfl) (λ_ _=>rfl))) (au (adz (pv 0) dm adg) (bh (dj (pv 1)))),?_⟩
  refine⟨_,rfl,qq,CQ,dx,_,.ref a,rfl,h1,T.cl,T.nCalls,rfl,_,rfl,qq,CQ,dx,_,.int p,rfl,h1,T.cl,T.nTaken,rfl,a,_,_,_,rfl,rfl,hs,gr (j:=p) (v:=V.int n) (by rw[List.getElem?_map,hn];rfl),?_⟩
  refine⟨_,rfl,qq,CQ,dx,_,.int p,rfl,h1,T.cl,T.nTaken,rfl,_,1,rfl,rfl,dx,_,h1,by show 2<1000;decide,_,rfl,?_⟩
  refine q _ ⟨dx,?_⟩ But.refl.at
  rw[ak]
  rfl
theorem at5(l:List Int)(p m:Nat)(h:p+m<=l.length):m6 (l.map V.int) (some (p:Int)) (some ((p:Int)+(m:Int)))=((l.drop p).take m).map V.int:=by
 unfold m6
 have e1:=HT.ad0 (l.map V.int).length 0 p
 have e2:=HT.ad0 (l.map V.int).length (l.map V.int).length (p+m)
 have e3:((p:Int)+(m:Int))=((p+m:Nat):Int):=by omega
 rw[e3,e1,e2,List.length_map,List.map_take,List.map_drop,show min p l.length=p by omega,show min (p+m) l.length-p=m by omega]
theorem ay8{f CQ:Addr}(F:Fn K "take_row" "Queue.take_row" aiz ["self"] f)(T:QuT K CQ)(mN:MD P w K mg base CQ CX0 1 "take_number" ["self"] (abt K CQ)):Def P w K mg base CX0 2 f ["self"] (akg K CQ):=by
 obtain⟨fN,mN,DN⟩:=mN
 refine F.ok0 ao1 (λvs H Q E h=>?_) (λcdv A outer s H vs Q E hr h=>?_)
 ·obtain⟨q,a,p,m,l,rfl,_⟩:=h
  rfl
 ·obtain⟨qq,a,p,m,l,rfl,⟨dx,h1⟩,hs,hn,hle,q⟩:=h
  have nd:=ao1.nd
  refine⟨_,au (cz (i:=1) nd rfl (Or.inl rfl) (jf (pv 0) T.cl mN DN hr bu))
   (au (cz (i:=2) nd rfl (Or.inl rfl) (adu ad2 (dw (pv 0) rfl) (abj (dw (pv 0) rfl)) (abj (gw yr (dw (pv 0) rfl) (pv 1)))))
   (au (adz (pv 0) (pv 1) adg) (bh (dj (pv 2))))),?_⟩
  refine⟨_,rfl,qq,dx,_,rfl,h1,rfl,qq,a,p,l,(m:Int),rfl,⟨dx,h1⟩,hs,hn,λH1 hQ k1=>?_⟩
  obtain⟨dx1,h2⟩:=hQ
  have hs1:=zu hs k1 h1
  refine⟨_,rfl,qq,CQ,dx1,_,.ref a,rfl,h2,T.cl,T.nCalls,rfl,_,rfl,qq,CQ,dx1,_,.int ((p+1:Nat):Int),rfl,h2,T.cl,T.nTaken,rfl,_,rfl,_,rfl,qq,CQ,dx1,_,.int ((p+1:Nat):Int),rfl,h2,T.cl,T.nTaken,rfl,_,rfl,_,_,rfl,rfl,_,rfl,a,_,rfl,hs1,λL hL=>?_⟩
  have nqL:qq≠L:=bx h2 hL
  have h3:(upd H1 L (.lst (m6 (l.map V.int) (some ((p+1:Nat):Int)) (some (((p+1:Nat):Int)+(m:Int)))))) qq=some (.ins CQ dx1 (qf a (p+1))):=by rw[ao nqL];exact h2
  refine⟨_,rfl,qq,CQ,dx1,_,.int ((p+1:Nat):Int),rfl,h3,T.cl,T.nTaken,rfl,_,rfl,_,_,rfl,rfl,dx1,_,h3,by show 2<1000;decide,_,rfl,?_⟩
  have e0:H L=none:=by
   cases z:H L with
   | none=>rfl
   | some o =>
    have:=k1 L o z (Ne.symm nqL)
    rw[hL]at this
    cases this
  refine q _ L e0 ?_ ⟨dx1,?_⟩ (k1.new hL).at
  ·rw[ao (Ne.symm nqL),ak,at5 l (p+1) m (by omega)]
  ·rw[ak]
   show some (HO.ins CQ dx1 [("calls",V.ref a),("taken",V.int (((p+1:Nat):Int)+(m:Int)))])=some (HO.ins CQ dx1 [("calls",V.ref a),("taken",V.int ((p+1+m:Nat):Int))])
   rw[show((p+1:Nat):Int)+(m:Int)=((p+1+m:Nat):Int) by omega]
theorem ayb{f:Addr}(F:Fn K "counted" "counted" ajp ["row"] f)(hl:mg "len" = none):Def P w K mg base CX0 1 f ["row"] abr:=by
 refine F.ok0 a1u (λvs H Q E h=>?_) (λcdv A outer s H vs Q E hr h=>?_)
 ·obtain⟨a,xs,rfl,_⟩:=h
  rfl
 ·obtain⟨a,xs,rfl,ha,hx,q⟩:=h
  refine⟨_,bh (dj (gw ah4 (ju (aj dm (aj (jg xn (by rfl) hl PySem.boot_len (aj (pv 0) aq)) aq))) (pv 0))),?_⟩
  refine⟨_,rfl,a,_,rfl,.inl (SqL.of ha),by show 2<=sizeLine;decide,λL hL=>?_⟩
  have s1:=dz (o:=.lst [.int 0,.int (xs.length:Int)]) (az.refl H) hL
  refine⟨_,rfl,L,a,_,_,rfl,rfl,ak,s1 _ _ ha,by show 2+xs.length<=sizeLine;rw[sizeLine_eq];omega,λL2' hL2=>?_⟩
  exact q _ L2' (s1.free hL2) ak (dz s1 hL2)
end
open Hm (Sem bI ofR)
def jr(h q:Addr)(H H':Hp):Prop:=∀b o,H b=some o->b≠h->b≠q->H' b=some o
theorem jr.of{h q:Addr}{H H':Hp}(s:az H H'):jr h q H H':=λb o e _ _=>s b o e
theorem jr.uo{h q:Addr}{H H':Hp}(s:But q H H'):jr h q H H':=λb o e _ n=>s b o e n
theorem jr.trans{h q:Addr}{H H1 H2:Hp}(a:jr h q H H1)(b:jr h q H1 H2):jr h q H H2:=λc o e n1 n2=>b c o (a c o e n1 n2) n1 n2
def Done(CH CR CQ h q a:Addr)(l:List Int)(H:Hp)(out:List Int)(s':Option Rules)(rest:List Int)(L:Addr)(H':Hp):Prop :=
 H' L=some (.lst (out.map V.int))/\(∃p',p'<=l.length/\QAt CQ H' q a p'/\l.drop p'=rest)/\o8 CH CR H' h s'/\jr h q H H'/\out.length<=40000
structure LOk(l:List Int):Prop where
 len:l.length<=30000
 nn:∀x∈l,0<=x/\x<=4294967295
def isRef(K:PySem.W.Frag)(RF C:Addr):Prop:=PySem.W.exmOne K (.ref C) (.ref RF)=some true/\ni K C "told"
def xx(K:PySem.W.Frag)(CH CR CQ RF:Addr)(n:Nat):Sp:=λvs H Q E=>∃(h q a:Addr) (l:List Int) (p:Nat) (s:Option Rules) (out:List Int) (s':Option Rules) (rest:List Int),vs=[.ref h,.ref q]/\QAt CQ H q a p/\p<=l.length/\SqL K H a (l.map V.int)/\LOk l/\o8 CH CR H h s/\h≠q /\
 Sem n s (l.drop p) out s' rest/\(∀H' L,Done CH CR CQ h q a l H out s' rest L H'->Q (.ref L) H')/\(∀C dx L H',isRef K RF C->H' dx=some (.xd [("told",.ref L)])->Done CH CR CQ h q a l H out s' rest L H'->E (.ref C) (some dx) H'/\E (late C) (some dx) H')
theorem adi{CH CR NR h:Addr}{H:Hp}{σ:L2.St}{Q:VK}{E:XK}{s:Option Rules}(h0:σ[0]? = some (some (.ref h)))(hh:o8 CH CR H h s)(hnone:s=none->ToldN NR E [.int (-3)] (az H))(hsome:∀r x b,s=some r->ue CR H x r b->Tafl.judge b=.ok r/\b.length<=30000->Q (.ref x) H):
  ad9 CH "known_rules" (aa0 CH CR NR) [] E (jc 0) jb σ H Q:=by
 cases s with
 | none =>
  have hh':=hh
  obtain⟨dx,h1⟩:=hh'
  exact⟨_,h0,h,dx,_,rfl,h1,rfl,h,none,rfl,hh,hnone rfl⟩
 | some r =>
  have hh':=hh
  obtain⟨dx,x,b,h1,_⟩:=hh'
  exact⟨_,h0,h,dx,_,rfl,h1,rfl,h,some r,rfl,hh,λx b k1 k2=>hsome r x b rfl k1 k2⟩
theorem ah7(b:Bytes):([.int 0,.int ((bz b).length:Int)]++bz b:List V)=((0:Int)::(b.length:Int)::bI b).map V.int:=by
 rw[uf,ac4]
 rfl
theorem ah8(ns:List Nat):([.int 0,.int ((du ns).length:Int)]++du ns:List V)=((0:Int)::(ns.length:Int)::Tafl.asInts ns).map V.int:=by
 rw[zm,<-aal]
 rfl
theorem ail{b:Bytes}{r:Rules}(h:Tafl.judge b=.ok r):agm r/\r.name.length<=16:=by
 obtain⟨s,_,hs⟩:=Hm.amk (Hm.judge_ok h)
 exact⟨⟨hs.w5,hs.h5⟩,hs.nlen⟩
theorem drop_cons{l:List Int}{p:Nat}{n:Int}{r:List Int}(h:l.drop p=n::r):l[p]? = some n/\l.drop (p+1)=r/\p+1<=l.length:=by
 have hp:p<l.length:=by
  by_cases hp:p<l.length
  ·exact hp
  ·rw[List.drop_eq_nil_of_le (by omega)]at h
   cases h
 rw[List.drop_eq_getElem_cons hp]at h
 injection h with h1 h2
 exact⟨by rw[List.getElem?_eq_getElem hp,h1],h2,hp⟩
section
variable{P:Program}{w:World}{K:PySem.W.Frag}{mg:Str->Option Value}{base:Heap}
theorem axy{f CH CR CQ NR RF:Addr}(F:Fn K "answer_name" "answer_name" ajg ["hall", "queue"] f)(TH:HlT K CH)(TR:RlT K CR)(mK:MD P w K mg base CH (XC P w) 4 "known_rules" ["self"] (aa0 CH CR NR))(gC:GD P w K mg base CX0 1 "counted" ["row"] abr)(rN:isRef K RF NR):
  Def P w K mg base (XC P w) 5 f ["hall", "queue"] (xx K CH CR CQ RF 1):=by
 obtain⟨fK,mK,DK⟩:=mK
 obtain⟨fC,gC,DC⟩:=gC
 refine F.okX a1r (λvs H Q E h=>?_) (λcdv A outer s H vs Q E hr h=>?_)
 ·obtain⟨h,q,a,l,p,s,out,s',rest,rfl,_⟩:=h
  rfl
 ·obtain⟨h,q,a,l,p,st,out,s',rest,rfl,⟨dq,hq⟩,hp,hs,lok,hh,nhq,sem,kQ,kE⟩:=h
  have hr1:=hr.mono (j:=1) (by decide)
  refine⟨_,bh (dj (d8 DC hr1 rfl gC bu (aj (dw (jf (pv 0) TH.cl mK DK hr ir) rfl) aq))),?_⟩
  obtain⟨rfl,rfl,rfl⟩:=Hm.a2h sem
  refine adi rfl hh (λe=>?_) λr x b e hR hj=>?_
  ·subst e
   exact λdx L H' a1 a2 s'=>(kE NR dx L H' rN a1 ⟨a2,⟨p,hp,⟨dq,s' _ _ hq⟩,rfl⟩,hh.same s',.of s',by show 1<=40000;decide⟩).1
  ·subst e
   obtain⟨dx,t,n',f',c',g,k1,k2,k3,k4,k5,k6⟩:=hR
   have hn:=(ail hj.1).2
   refine⟨x,CR,dx,_,_,rfl,k1,TR.cl,TR.nName,rfl,n',_,rfl,k3,by rw[uf];omega,λH' L _ hL s'=>kQ H' L ⟨?_,⟨p,hp,⟨dq,s' _ _ hq⟩,rfl⟩,hh.same s',.of s',by show((0:Int)::(r.name.length:Int)::bI r.name).length<=40000;unfold bI;rw[List.length_cons,List.length_cons,List.length_map];omega⟩⟩
   rw[hL,ah7]
   rfl
theorem axw{f CH CR CQ NR RF:Addr}(F:Fn K "answer_facts" "answer_facts" ajf ["hall", "queue"] f)(TH:HlT K CH)(TR:RlT K CR)(mK:MD P w K mg base CH (XC P w) 4 "known_rules" ["self"] (aa0 CH CR NR))(gC:GD P w K mg base CX0 1 "counted" ["row"] abr)(rN:isRef K RF NR):
  Def P w K mg base (XC P w) 5 f ["hall", "queue"] (xx K CH CR CQ RF 2):=by
 obtain⟨fK,mK,DK⟩:=mK
 obtain⟨fC,gC,DC⟩:=gC
 refine F.okX a1q (λvs H Q E h=>?_) (λcdv A outer s H vs Q E hr h=>?_)
 ·obtain⟨h,q,a,l,p,s,out,s',rest,rfl,_⟩:=h
  rfl
 ·obtain⟨h,q,a,l,p,st,out,s',rest,rfl,⟨dq,hq⟩,hp,hs,lok,hh,nhq,sem,kQ,kE⟩:=h
  have hr1:=hr.mono (j:=1) (by decide)
  refine⟨_,bh (dj (d8 DC hr1 rfl gC bu (aj (dw (jf (pv 0) TH.cl mK DK hr ir) rfl) aq))),?_⟩
  obtain⟨rfl,rfl,rfl⟩:=Hm.a2f sem
  refine adi rfl hh (λe=>?_) λr x b e hR hj=>?_
  ·subst e
   exact λdx L H' a1 a2 s'=>(kE NR dx L H' rN a1 ⟨a2,⟨p,hp,⟨dq,s' _ _ hq⟩,rfl⟩,hh.same s',.of s',by show 1<=40000;decide⟩).1
  ·subst e
   obtain⟨dx,t,n',f',c',g,k1,k2,k3,k4,k5,k6⟩:=hR
   refine⟨x,CR,dx,_,_,rfl,k1,TR.cl,TR.nFacts,rfl,f',_,rfl,k4,by rw[zm];show 13<=_;decide,λH' L _ hL s'=>kQ H' L ⟨?_,⟨p,hp,⟨dq,s' _ _ hq⟩,rfl⟩,hh.same s',.of s',by show 15<=40000;decide⟩⟩
   rw[hL,ah8]
   rfl
theorem ax0{f CH CR CQ NR RF:Addr}(F:Fn K "answer_text" "answer_text" aji ["hall", "queue"] f)(TH:HlT K CH)(TR:RlT K CR)(mK:MD P w K mg base CH (XC P w) 4 "known_rules" ["self"] (aa0 CH CR NR))(gC:GD P w K mg base CX0 1 "counted" ["row"] abr)(rN:isRef K RF NR):
  Def P w K mg base (XC P w) 5 f ["hall", "queue"] (xx K CH CR CQ RF 5):=by
 obtain⟨fK,mK,DK⟩:=mK
 obtain⟨fC,gC,DC⟩:=gC
 refine F.okX a1t (λvs H Q E h=>?_) (λcdv A outer s H vs Q E hr h=>?_)
 ·obtain⟨h,q,a,l,p,s,out,s',rest,rfl,_⟩:=h
  rfl
 ·obtain⟨h,q,a,l,p,st,out,s',rest,rfl,⟨dq,hq⟩,hp,hs,lok,hh,nhq,sem,kQ,kE⟩:=h
  have hr1:=hr.mono (j:=1) (by decide)
  refine⟨_,bh (dj (d8 DC hr1 rfl gC bu (aj (dw (jf (pv 0) TH.cl mK DK hr ir) rfl) aq))),?_⟩
  obtain⟨rfl,rfl,rfl⟩:=Hm.a2j sem
  refine adi rfl hh (λe=>?_) λr x b e hR hj=>?_
  ·subst e
   exact λdx L H' a1 a2 s'=>(kE NR dx L H' rN a1 ⟨a2,⟨p,hp,⟨dq,s' _ _ hq⟩,rfl⟩,hh.same s',.of s',by show 1<=40000;decide⟩).1
  ·subst e
   have hb:=Hm.a0j (Hm.judge_ok hj.1)
   have hbl:=hj.2
   obtain⟨dx,t,n',f',c',g,k1,k2,k3,k4,k5,k6⟩:=hR
   refine⟨x,CR,dx,_,_,rfl,k1,TR.cl,TR.nText,rfl,t,_,rfl,k2,?_,λH' L _ hL s'=>kQ H' L ⟨?_,⟨p,hp,⟨dq,s' _ _ hq⟩,rfl⟩,hh.same s',.of s',by show((0:Int)::((Tafl.printed r).length:Int)::bI (Tafl.printed r)).length<=40000;unfold bI;rw[List.length_cons,List.length_cons,List.length_map,hb];omega⟩⟩
   ·rw[uf]
    omega
   ·rw[hL,ah7,<-hb]
    rfl
theorem ax2{f CH CR CQ NR RF:Addr}(F:Fn K "answer_turns" "answer_turns" ajk ["hall", "queue"] f)(TH:HlT K CH)(TR:RlT K CR)(mK:MD P w K mg base CH (XC P w) 4 "known_rules" ["self"] (aa0 CH CR NR))(gC:GD P w K mg base CX0 1 "counted" ["row"] abr)
  (gF:GD P w K mg base CX0 3 "fitting_turns" ["wide", "high", "ground"] aqt) (rN:isRef K RF NR):Def P w K mg base (XC P w) 5 f ["hall", "queue"] (xx K CH CR CQ RF 4):=by
 obtain⟨fK,mK,DK⟩:=mK
 obtain⟨fC,gC,DC⟩:=gC
 obtain⟨fF,gF,DF⟩:=gF
 refine F.okX ape (λvs H Q E h=>?_) (λcdv A outer s H vs Q E hr h=>?_)
 ·obtain⟨h,q,a,l,p,s,out,s',rest,rfl,_⟩:=h
  rfl
 ·obtain⟨h,q,a,l,p,st,out,s',rest,rfl,⟨dq,hq⟩,hp,hs,lok,hh,nhq,sem,kQ,kE⟩:=h
  have nd:=ape.nd
  have hr1:=hr.mono (j:=1) (by decide)
  have hr3:=hr.mono (j:=3) (by decide)
  refine⟨_,au (cz (i:=2) nd rfl (Or.inl rfl) (jf (pv 0) TH.cl mK DK hr ir))
   (bh (dj (d8 DC hr1 rfl gC bu (aj (d8 DF hr3 rfl gF bu (aj (gk m8 (dw (pv 2) rfl) dm (λ_ _=>rfl)) (aj (gk m8 (dw (pv 2) rfl) dm (λ_ _=>rfl)) (aj (dw (pv 2) rfl) aq)))) aq)))),?_⟩
  obtain⟨rfl,rfl,rfl⟩:=Hm.a2l sem
  refine adi rfl hh (λe=>?_) λr x b e hR hj=>?_
  ·subst e
   exact λdx L H' a1 a2 s'=>(kE NR dx L H' rN a1 ⟨a2,⟨p,hp,⟨dq,s' _ _ hq⟩,rfl⟩,hh.same s',.of s',by show 1<=40000;decide⟩).1
  ·subst e
   obtain⟨dx,t,n',f',c',g,k1,k2,k3,k4,k5,k6⟩:=hR
   refine⟨_,rfl,x,CR,dx,_,_,rfl,k1,TR.cl,TR.nFacts,rfl,f',_,_,_,rfl,rfl,SqL.of k4,gr (j:=0) rfl,_,rfl,x,CR,dx,_,_,rfl,k1,TR.cl,TR.nFacts,rfl,f',_,_,_,rfl,rfl,SqL.of k4,gr (j:=1) rfl,_,rfl,x,CR,dx,_,_,rfl,k1,TR.cl,TR.nGround,rfl,g,r,rfl,k6,(ail hj.1).1,λH1 L1 _ hL1 s1=>?_⟩
   have htl:r.turns.length<=(List.range 8).length:=List.length_filter_le _ _
   rw[List.length_range]at htl
   refine⟨L1,_,rfl,hL1,?_,λH' L _ hL s'=>kQ H' L ⟨?_,⟨p,hp,⟨dq,s' _ _ (s1 _ _ hq)⟩,rfl⟩,hh.same (s1.trans s'),.of (s1.trans s'),by show((0:Int)::(r.turns.length:Int)::Tafl.asInts r.turns).length<=40000;unfold Tafl.asInts;rw[List.length_cons,List.length_cons,List.length_map];omega⟩⟩
   ·rw[zm]
    omega
   ·rw[hL,ah8]
    rfl
end
theorem afo{K:PySem.W.Frag}{C f:Addr}{T:List V}{E:XK}{D:Ends}{σ:L2.St}{H1:Hp}(M:XMk K C f)(xa:ni K C "told")(k:ToldN C E T (az H1)):abv K E (wy C (uv K C 0 λ_=>T) E0 jb) D σ H1:=by
 refine λe hne=>⟨e,[],rfl,rfl,ak,xa,λdx l g1 g2 g3=>⟨rfl,e,C,dx,rfl,ak,M.xc,?_⟩⟩
 obtain⟨k1,k2,k3⟩:=adk (T:=T) hne g1 g2 g3 (.ext (il e C dx))
 exact k dx l _ k1 k2 k3
section
variable{P:Program}{w:World}{K:PySem.W.Frag}{mg:Str->Option Value}{base:Heap}
theorem axu{f CH CR CQ OR RF:Addr}(F:Fn K "answer_back" "answer_back" ajd ["hall", "queue"] f)(TQ:QuT K CQ)(nRQ:CR≠CQ)(mN:MD P w K mg base CQ CX0 1 "take_number" ["self"] (abt K CQ))(gB:GD P w K mg base CX0 1 "undoing" ["turn"] aqi)
  (OD:Rfd P w K mg base "OutOfRange" OR [.int (-1)]) (rO:isRef K RF OR) (h8:fc mg "TURNS" 8):Def P w K mg base (XC P w) 4 f ["hall", "queue"] (xx K CH CR CQ RF 9):=by
 obtain⟨fN,mN,DN⟩:=mN
 obtain⟨fB,gB,DB⟩:=gB
 obtain⟨⟨fO,MO,DO⟩,xO,hO⟩:=OD
 obtain⟨u8,h8,r8⟩:=h8
 refine F.okX apa (λvs H Q E h=>?_) (λcdv A outer s H vs Q E hr h=>?_)
 ·obtain⟨h,q,a,l,p,s,out,s',rest,rfl,_⟩:=h
  rfl
 ·obtain⟨h,q,a,l,p,st,out,s',rest,rfl,⟨dq,hq⟩,hp,hs,lok,hh,nhq,sem,kQ,kE⟩:=h
  have nd:=apa.nd
  have hr1:=hr.mono (j:=1) (by decide)
  refine⟨_,au (cz (i:=2) nd rfl (Or.inl rfl) (jf (pv 1) TQ.cl mN DN hr1 bu))
   (au (jl (iy xr (pv 2) (di (by rfl) h8 r8) (gf _)) (bh (wk rfl wz (abh MO DO hr rfl hO (by decide) bu))) jq)
   (bh (dj (ju (aj (d8 DB hr1 rfl gB bu (aj (pv 2) aq)) aq))))),?_⟩
  obtain⟨t,hin,rfl,rfl⟩:=Hm.a2d sem
  obtain⟨e1,e2,e3⟩:=drop_cons hin
  refine⟨_,rfl,q,dq,_,rfl,hq,rfl,q,a,p,l,(t:Int),rfl,⟨dq,hq⟩,hs,e1,λH1 hQ1 k1=>?_⟩
  have hh1:=hh.but k1 hq nRQ nhq
  obtain⟨dq1,hq1⟩:=hQ1
  refine⟨_,rfl,_,_,rfl,rfl,_,rfl,?_⟩
  rw[show decide ((8:Int)<=(t:Int))=decide (7<t) from decide_eq_decide.mpr (by omega)]
  by_cases h7:7<t
  ·rw[decide_eq_true h7]
   rw[if_pos h7]at kE
   refine d9 (afo MO xO λdx L H' a1 a2 s'=>(kE OR dx L H' rO a1 ⟨a2,⟨p+1,e3,⟨dq1,s' _ _ hq1⟩,e2⟩,hh1.same s',(jr.uo k1).trans (.of s'),by decide⟩).1)
  ·rw[decide_eq_false h7]
   rw[if_neg h7]at kQ
   refine gh ⟨_,rfl,(t:Int),rfl,by show 1<=sizeLine;decide,λL hL=>?_⟩
   have s':=dz (o:=.lst [.int (Hm.ab0 (t:Int))]) (az.refl H1) hL
   refine kQ _ L ⟨?_,⟨p+1,e3,⟨dq1,s' _ _ hq1⟩,e2⟩,hh1.same s',(jr.uo k1).trans (.of s'),by show 1<=40000;decide⟩
   rw[ak,Hm.back_eq t (by omega)]
   rfl
theorem ax3{f CH CR CQ OR RF:Addr}(F:Fn K "answer_two" "answer_two" ajl ["hall", "queue"] f)(TQ:QuT K CQ)(nRQ:CR≠CQ)(mN:MD P w K mg base CQ CX0 1 "take_number" ["self"] (abt K CQ))(gB:GD P w K mg base CX0 1 "combined" ["turn", "later"] arc)
  (OD:Rfd P w K mg base "OutOfRange" OR [.int (-1)]) (rO:isRef K RF OR) (h8:fc mg "TURNS" 8):Def P w K mg base (XC P w) 4 f ["hall", "queue"] (xx K CH CR CQ RF 8):=by
 obtain⟨fN,mN,DN⟩:=mN
 obtain⟨fB,gB,DB⟩:=gB
 obtain⟨⟨fO,MO,DO⟩,xO,hO⟩:=OD
 obtain⟨u8,h8,r8⟩:=h8
 refine F.okX apf (λvs H Q E h=>?_) (λcdv A outer s H vs Q E hr h=>?_)
 ·obtain⟨h,q,a,l,p,s,out,s',rest,rfl,_⟩:=h
  rfl
 ·obtain⟨h,q,a,l,p,st,out,s',rest,rfl,⟨dq,hq⟩,hp,hs,lok,hh,nhq,sem,kQ,kE⟩:=h
  have nd:=apf.nd
  have hr1:=hr.mono (j:=1) (by decide)
  refine⟨_,au (cz (i:=2) nd rfl (Or.inl rfl) (jf (pv 1) TQ.cl mN DN hr1 bu))
   (au (cz (i:=3) nd rfl (Or.inl rfl) (jf (pv 1) TQ.cl mN DN hr1 bu))
   (au (jl (PW.pt (yu (iy xr (pv 2) (di (by rfl) h8 r8) (gf _)) (ack (iy xr (pv 3) (di (by rfl) h8 r8) (gf _))))) (bh (wk rfl wz (abh MO DO hr rfl hO (by decide) bu))) jq)
   (bh (dj (ju (aj (d8 DB hr1 rfl gB bu (aj (pv 2) (aj (pv 3) aq))) aq)))))),?_⟩
  obtain⟨t,u,hin,rfl,rfl⟩:=Hm.a2m sem
  obtain⟨e1,e2,e3⟩:=drop_cons hin
  obtain⟨f1,f2,f3⟩:=drop_cons e2
  refine⟨_,rfl,q,dq,_,rfl,hq,rfl,q,a,p,l,(t:Int),rfl,⟨dq,hq⟩,hs,e1,λH1 hQ1 k1=>?_⟩
  have hh1:=hh.but k1 hq nRQ nhq
  have hs1:=zu hs k1 hq
  obtain⟨dq1,hq1⟩:=hQ1
  refine⟨_,rfl,q,dq1,_,rfl,hq1,rfl,q,a,p+1,l,(u:Int),rfl,⟨dq1,hq1⟩,hs1,f1,λH2 hQ2 k2=>?_⟩
  have hh2:=hh1.but k2 hq1 nRQ nhq
  have k02:=k1.trans k2
  obtain⟨dq2,hq2⟩:=hQ2
  have bad:7<t\/7<u->abv K E (wy OR (uv K OR 0 λ_=>[.int (-1)]) E0 jb) {nx:=λ_ H'=>Q .non H',rt:=Q} [some (.ref h),some (.ref q),some (.int (t:Int)),some (.int (u:Int))] H2:=λhb=>by
   rw[if_pos hb]at kE
   exact afo MO xO λdx L H' a1 a2 s'=>(kE OR dx L H' rO a1 ⟨a2,⟨p+1+1,f3,⟨dq2,s' _ _ hq2⟩,f2⟩,hh2.same s',(jr.uo k02).trans (.of s'),by decide⟩).1
  refine⟨_,rfl,_,_,rfl,rfl,_,rfl,?_⟩
  rw[show decide ((8:Int)<=(t:Int))=decide (7<t) from decide_eq_decide.mpr (by omega)]
  by_cases h7:7<t
  ·rw[decide_eq_true h7]
   exact d9 (d9 (bad (.inl h7)))
  ·rw[decide_eq_false h7]
   refine gh ⟨_,rfl,_,_,rfl,rfl,_,rfl,?_⟩
   rw[show decide ((8:Int)<=(u:Int))=decide (7<u) from decide_eq_decide.mpr (by omega)]
   by_cases g7:7<u
   ·rw[decide_eq_true g7]
    exact d9 (bad (.inr g7))
   ·rw[decide_eq_false g7]
    rw[if_neg (λz=>z.elim h7 g7)]at kQ
    refine gh ⟨_,rfl,_,rfl,(t:Int),(u:Int),rfl,by show 1<=sizeLine;decide,λL hL=>?_⟩
    have s':=dz (o:=.lst [.int (Hm.acv (t:Int) (u:Int))]) (az.refl H2) hL
    refine kQ _ L ⟨?_,⟨p+1+1,f3,⟨dq2,s' _ _ hq2⟩,f2⟩,hh2.same s',(jr.uo k02).trans (.of s'),by show 1<=40000;decide⟩
    rw[ak,Hm.a4p t u (by omega) (by omega)]
    rfl
theorem axv{f CH CR CQ NR OR RF:Addr}(F:Fn K "answer_cells" "answer_cells" aje ["hall", "queue"] f)(TH:HlT K CH)(TR:RlT K CR)(TQ:QuT K CQ)(nRQ:CR≠CQ)(mN:MD P w K mg base CQ CX0 1 "take_number" ["self"] (abt K CQ))
  (mK:MD P w K mg base CH (XC P w) 4 "known_rules" ["self"] (aa0 CH CR NR)) (gC:GD P w K mg base CX0 1 "counted" ["row"] abr) (OD:Rfd P w K mg base "OutOfRange" OR [.int (-1)]) (rO:isRef K RF OR) (rN:isRef K RF NR) (hl:mg "len" = none) :
  Def P w K mg base (XC P w) 5 f ["hall", "queue"] (xx K CH CR CQ RF 3):=by
 obtain⟨fN,mN,DN⟩:=mN
 obtain⟨fK,mK,DK⟩:=mK
 obtain⟨fC,gC,DC⟩:=gC
 obtain⟨⟨fO,MO,DO⟩,xO,hO⟩:=OD
 refine F.okX apb (λvs H Q E h=>?_) (λcdv A outer s H vs Q E hr h=>?_)
 ·obtain⟨h,q,a,l,p,s,out,s',rest,rfl,_⟩:=h
  rfl
 ·obtain⟨h,q,a,l,p,st,out,s',rest,rfl,⟨dq,hq⟩,hp,hs,lok,hh,nhq,sem,kQ,kE⟩:=h
  have nd:=apb.nd
  have hr1:=hr.mono (j:=1) (by decide)
  have hr3:=hr.mono (j:=3) (by decide)
  refine⟨_,au (cz (i:=2) nd rfl (Or.inl rfl) (jf (pv 1) TQ.cl mN DN hr1 bu))
   (au (cz (i:=3) nd rfl (Or.inl rfl) (dw (jf (pv 0) TH.cl mK DK hr ir) rfl))
   (au (jl (iy xr (pv 2) (jg xn (by rfl) hl PySem.boot_len (aj (pv 3) aq)) (gf _)) (bh (wk rfl wz (abh MO DO hr3 rfl hO (by decide) bu))) jq)
   (bh (dj (d8 DC hr1 rfl gC bu (aj (gk m8 (pv 3) (pv 2) (λ_ _=>rfl)) aq)))))),?_⟩
  obtain⟨k,hin,rfl,rfl⟩:=Hm.a2e sem
  obtain⟨e1,e2,e3⟩:=drop_cons hin
  refine⟨_,rfl,q,dq,_,rfl,hq,rfl,q,a,p,l,(k:Int),rfl,⟨dq,hq⟩,hs,e1,λH1 hQ1 k1=>?_⟩
  have hh1:=hh.but k1 hq nRQ nhq
  obtain⟨dq1,hq1⟩:=hQ1
  refine adi rfl hh1 (λe=>?_) λr x b e hR hj=>?_
  ·subst e
   exact λdx L H' a1 a2 s'=>(kE NR dx L H' rN a1 ⟨a2,⟨p+1,e3,⟨dq1,s' _ _ hq1⟩,e2⟩,hh1.same s',(jr.uo k1).trans (.of s'),by show 1<=40000;decide⟩).1
  ·subst e
   obtain⟨dx,t,n',f',c',g,j1,j2,j3,j4,⟨qs,j5,j6⟩,j7⟩:=hR
   have lq:qs.length=5:=je j6
   refine⟨x,CR,dx,_,_,rfl,j1,TR.cl,TR.nCells,rfl,?_⟩
   refine⟨_,rfl,_,rfl,c',_,rfl,.inl (SqL.of j5),_,_,rfl,rfl,_,rfl,?_⟩
   rw[List.length_map,lq,show decide (((5:Nat):Int)<=(k:Int))=decide (4<k) from decide_eq_decide.mpr (by omega)]
   by_cases h4:4<k
   ·rw[decide_eq_true h4]
    refine d9 (afo MO xO λdx L H' a1 a2 s'=>(kE OR dx L H' rO a1 ⟨?_,⟨p+1,e3,⟨dq1,s' _ _ hq1⟩,e2⟩,hh1.same s',(jr.uo k1).trans (.of s'),?_⟩).1)
    ·rw[a2]
     show some (HO.lst _)=some (HO.lst (List.map V.int (if 4<k then[-1] else _)))
     rw[if_pos h4]
     rfl
    ·show(if 4<k then[-1] else _:List Int).length<=40000
     rw[if_pos h4]
     decide
   ·rw[decide_eq_false h4]
    have hk5:k<qs.length:=by omega
    obtain⟨ll,hll,hqk⟩:=ph j6 (List.getElem?_eq_getElem hk5)
    have ell:ll=cellsBy r k:=by
     match k,hll with
     | 0,hll=>cases hll;rfl
     | 1,hll=>cases hll;rfl
     | 2,hll=>cases hll;rfl
     | 3,hll=>cases hll;rfl
     | 4,hll=>cases hll;rfl
     | k+5,hll=>cases hll
    subst ell
    have sz:=(ail hj.1).1
    have hlen:(cellsBy r k).length<=169:=by
     have hm:=Nat.mul_le_mul sz.h5.2 sz.w5.2
     match k with
     | 0=>exact Nat.le_trans (Hm.kind_len r .seat) hm
     | 1=>exact Nat.le_trans (Hm.kind_len r .exit) hm
     | 2=>exact Nat.le_trans (Hm.kind_len r .wall) hm
     | 3=>exact Nat.le_trans (Hm.aib r .hunter) hm
     | k+4=>exact Nat.le_trans (Hm.aib r .man) hm
    refine gh ⟨_,rfl,_,rfl,c',_,_,_,rfl,rfl,SqL.of j5,gr (j:=k) (v:=V.ref qs[k]) (by rw[List.getElem?_map,List.getElem?_eq_getElem hk5];rfl),qs[k],_,rfl,hqk.2,by rw[zm];omega,λH' L _ hL s'=>kQ H' L ⟨?_,⟨p+1,e3,⟨dq1,s' _ _ hq1⟩,e2⟩,hh1.same s',(jr.uo k1).trans (.of s'),?_⟩⟩
    ·rw[hL,ah8]
     show some (HO.lst _)=some (HO.lst (List.map V.int (if 4<k then[-1] else _)))
     rw[if_neg h4]
    ·show(if 4<k then[-1] else _:List Int).length<=40000
     rw[if_neg h4]
     unfold Tafl.asInts
     rw[List.length_cons,List.length_cons,List.length_map]
     omega
end
theorem aio{l:List Int}{p:Nat}{x t:List Int}(h:PyFlat.row (l.drop p)=some (x,t)):∃m:Nat,l[p]? = some (m:Int)/\p+1+m<=l.length/\(l.drop (p+1)).take m=x/\l.drop (p+1+m)=t:=by
 obtain⟨m,r,e,hm,rfl,rfl⟩:=Hm.row_inv h
 obtain⟨e1,e2,e3⟩:=drop_cons e
 refine⟨m,e1,?_,by rw[e2],by rw[<-e2,List.drop_drop]⟩
 rw[<-e2,List.length_drop]at hm
 omega
section
variable{P:Program}{w:World}{K:PySem.W.Frag}{mg:Str->Option Value}{base:Heap}
theorem ax1{f CH CR CQ OR RF:Addr}(F:Fn K "answer_turn" "answer_turn" ajj ["hall", "queue"] f)(TQ:QuT K CQ)(nRQ:CR≠CQ)(mN:MD P w K mg base CQ CX0 1 "take_number" ["self"] (abt K CQ))(gZ:GD P w K mg base CX0 1 "is_size" ["number"] akf)
  (gH:GD P w K mg base CX0 1 "has_cell" ["wide", "high", "cell"] aqu) (gT:GD P w K mg base CX0 1 "turned" ["wide", "high", "turn", "cell"] af6) (OD:Rfd P w K mg base "OutOfRange" OR [.int (-1)]) (rO:isRef K RF OR) (h8:fc mg "TURNS" 8):Def P w K mg base (XC P w) 4 f ["hall", "queue"] (xx K CH CR CQ RF 7):=by
 obtain⟨fN,mN,DN⟩:=mN
 obtain⟨fZ,gZ,DZ⟩:=gZ
 obtain⟨fH,gH,DH⟩:=gH
 obtain⟨fT,gT,DT⟩:=gT
 obtain⟨⟨fO,MO,DO⟩,xO,hO⟩:=OD
 obtain⟨u8,h8,r8⟩:=h8
 refine F.okX apd (λvs H Q E h=>?_) (λcdv A outer s H vs Q E hr h=>?_)
 ·obtain⟨h,q,a,l,p,s,out,s',rest,rfl,_⟩:=h
  rfl
 ·obtain⟨h,q,a,l,p,st,out,s',rest,rfl,⟨dq,hq⟩,hp,hs,lok,hh,nhq,sem,kQ,kE⟩:=h
  have nd:=apd.nd
  have hr1:=hr.mono (j:=1) (by decide)
  refine⟨_,au (cz (i:=2) nd rfl (Or.inl rfl) (jf (pv 1) TQ.cl mN DN hr1 bu))
   (au (cz (i:=3) nd rfl (Or.inl rfl) (jf (pv 1) TQ.cl mN DN hr1 bu))
   (au (cz (i:=4) nd rfl (Or.inl rfl) (jf (pv 1) TQ.cl mN DN hr1 bu))
   (au (cz (i:=5) nd rfl (Or.inl rfl) (jf (pv 1) TQ.cl mN DN hr1 bu))
   (au (jl (PW.pt (yu (u9 (uc (d8 DZ hr1 rfl gZ bu (aj (pv 2) aq)))) (yu (u9 (uc (d8 DZ hr1 rfl gZ bu (aj (pv 3) aq)))) (yu (iy xr (pv 4) (di (by rfl) h8 r8) (gf _))
     (ack (u9 (uc (d8 DH hr1 rfl gH bu (aj (pv 2) (aj (pv 3) (aj (pv 5) aq)))))))))))
    (bh (wk rfl wz (abh MO DO hr rfl hO (by decide) bu))) jq)
   (bh (dj (ju (aj (d8 DT hr1 rfl gT bu (aj (pv 2) (aj (pv 3) (aj (pv 4) (aj (pv 5) aq))))) aq)))))))),?_⟩
  obtain⟨wd,g,t,c,hin,rfl,rfl⟩:=Hm.a2k sem
  obtain⟨e1,e2,e3⟩:=drop_cons hin
  obtain⟨f1,f2,f3⟩:=drop_cons e2
  obtain⟨g1,g2,g3⟩:=drop_cons f2
  obtain⟨i1,i2,i3⟩:=drop_cons g2
  refine⟨_,rfl,q,dq,_,rfl,hq,rfl,q,a,p,l,(wd:Int),rfl,⟨dq,hq⟩,hs,e1,λH1 hQ1 k1=>?_⟩
  have hh1:=hh.but k1 hq nRQ nhq
  have hs1:=zu hs k1 hq
  obtain⟨dq1,hq1⟩:=hQ1
  refine⟨_,rfl,q,dq1,_,rfl,hq1,rfl,q,a,p+1,l,(g:Int),rfl,⟨dq1,hq1⟩,hs1,f1,λH2 hQ2 k2=>?_⟩
  have hh2:=hh1.but k2 hq1 nRQ nhq
  have hs2:=zu hs1 k2 hq1
  obtain⟨dq2,hq2⟩:=hQ2
  refine⟨_,rfl,q,dq2,_,rfl,hq2,rfl,q,a,p+1+1,l,(t:Int),rfl,⟨dq2,hq2⟩,hs2,g1,λH3 hQ3 k3=>?_⟩
  have hh3:=hh2.but k3 hq2 nRQ nhq
  have hs3:=zu hs2 k3 hq2
  obtain⟨dq3,hq3⟩:=hQ3
  refine⟨_,rfl,q,dq3,_,rfl,hq3,rfl,q,a,p+1+1+1,l,(c:Int),rfl,⟨dq3,hq3⟩,hs3,i1,λH4 hQ4 k4=>?_⟩
  have hh4:=hh3.but k4 hq3 nRQ nhq
  obtain⟨dq4,hq4⟩:=hQ4
  have k04:=((k1.trans k2).trans k3).trans k4
  have bad:(TaflRules.isSize wd=false\/TaflRules.isSize g=false\/7<t\/wd<=c % 13\/g<=c / 13)->abv K E (wy OR (uv K OR 0 λ_=>[.int (-1)]) E0 jb) {nx:=λ_ H'=>Q .non H',rt:=Q} [some (.ref h),some (.ref q),some (.int (wd:Int)),some (.int (g:Int)),some (.int (t:Int)),some (.int (c:Int))] H4:=λhb=>by
   rw[if_pos hb]at kE
   exact afo MO xO λdx L H' a1 a2 s'=>(kE OR dx L H' rO a1 ⟨a2,⟨_,i3,⟨dq4,s' _ _ hq4⟩,i2⟩,hh4.same s',(jr.uo k04).trans (.of s'),by decide⟩).1
  refine⟨_,rfl,wd,rfl,_,rfl,?_⟩
  cases z1:TaflRules.isSize wd with
  | false=>exact d9 (d9 (bad (.inl z1)))
  | true =>
  refine gh ⟨_,rfl,g,rfl,_,rfl,?_⟩
  cases z2:TaflRules.isSize g with
  | false=>exact d9 (d9 (bad (.inr (.inl z2))))
  | true =>
  refine gh ⟨_,rfl,_,_,rfl,rfl,_,rfl,?_⟩
  rw[show decide ((8:Int)<=(t:Int))=decide (7<t) from decide_eq_decide.mpr (by omega)]
  by_cases h7:7<t
  ·rw[decide_eq_true h7]
   exact d9 (d9 (bad (.inr (.inr (.inl h7)))))
  rw[decide_eq_false h7]
  refine gh ⟨_,rfl,_,rfl,_,rfl,wd,g,c,rfl,_,rfl,?_⟩
  by_cases hx:c % 13<wd
  case neg =>
   rw[decide_eq_false hx]
   exact d9 (bad (.inr (.inr (.inr (.inl (by omega))))))
  by_cases hy:c / 13<g
  case neg =>
   rw[decide_eq_true hx,decide_eq_false hy]
   exact d9 (bad (.inr (.inr (.inr (.inr (by omega))))))
  rw[decide_eq_true hx,decide_eq_true hy]
  have hno:¬(TaflRules.isSize wd=false\/TaflRules.isSize g=false\/7<t\/wd<=c % 13\/g<=c / 13):=by
   rw[z1,z2]
   rintro(z | z | z | z | z)
   ·cases z
   ·cases z
   ·exact h7 z
   ·omega
   ·omega
  rw[if_neg hno]at kQ
  refine gh ⟨_,rfl,_,rfl,_,rfl,_,rfl,wd,g,t,c,rfl,hx,hy,λH5 s5=>⟨by show 1<=sizeLine;decide,λL hL=>?_⟩⟩
  have s':=dz (o:=.lst [.int ((Hm.o4 wd g t c:Nat):Int)]) s5 hL
  exact kQ _ L ⟨ak,⟨_,i3,⟨dq4,s' _ _ hq4⟩,i2⟩,hh4.same s',(jr.uo k04).trans (.of s'),by show 1<=40000;decide⟩
theorem axz{f CH CR CQ TF RF:Addr}(F:Fn K "answer_rules" "answer_rules" ajh ["hall", "queue"] f)(TH:HlT K CH)(TQ:QuT K CQ)(nRQ:CR≠CQ)(nRH:CR≠CH)(mR:MD P w K mg base CQ CX0 2 "take_row" ["self"] (akg K CQ))(gR:GD P w K mg base (XC P w) 8 "rules_of" ["codes"] (ake CR TF))
  (rT:isRef K RF TF):Def P w K mg base (XC P w) 9 f ["hall", "queue"] (xx K CH CR CQ RF 0):=by
 obtain⟨fN,mN,DN⟩:=mR
 obtain⟨fR,gR,DR⟩:=gR
 refine F.okX a1s (λvs H Q E h=>?_) (λcdv A outer s H vs Q E hr h=>?_)
 ·obtain⟨h,q,a,l,p,s,out,s',rest,rfl,_⟩:=h
  rfl
 ·obtain⟨h,q,a,l,p,st,out,s',rest,rfl,⟨dq,hq⟩,hp,hs,lok,hh,nhq,sem,kQ,kE⟩:=h
  have hr2:=hr.mono (j:=2) (by decide)
  refine⟨_,au (jw (pv 0) (d8 DR hr rfl gR ir (aj (jf (pv 1) TQ.cl mN DN hr2 bu) aq)) rfl) (bh (dj (ju (aj dm aq)))),?_⟩
  obtain⟨m,r,t,hin,hm,rfl,ht,htl,hres⟩:=Hm.a2i sem
  obtain⟨e1,e2,e3⟩:=drop_cons hin
  have hle:p+1+m<=l.length:=by
   rw[<-e2,List.length_drop]at hm
   omega
  have erest:l.drop (p+1+m)=r.drop m:=by rw[<-e2,List.drop_drop]
  have llen:=lok.len
  refine⟨_,rfl,q,dq,_,rfl,hq,rfl,q,a,p,m,l,rfl,⟨dq,hq⟩,hs,e1,hle,λH1 L1 _ hL1 hQ1 k1=>?_⟩
  have hh1:=hh.but k1 hq nRQ nhq
  obtain⟨dq1,hq1⟩:=hQ1
  rw[e2,ht]at hL1
  refine⟨L1,t,rfl,by rw[ac4];exact hL1,?_⟩
  cases ej:Tafl.judge t with
  | error kp =>
   obtain⟨k,pl⟩:=kp
   rw[ej]at hres
   obtain⟨rfl,rfl⟩:=hres
   exact λdx L H' a1 a2 s'=>(kE TF dx L H' rT a1 ⟨a2,⟨_,hle,⟨dq1,s' _ _ hq1⟩,erest⟩,hh1.same s',(jr.uo k1).trans (.of s'),by show 3<=40000;decide⟩).1
  | ok ru =>
   rw[ej]at hres
   obtain⟨rfl,rfl⟩:=hres
   intro H2 x hx0 hR s2
   obtain⟨dh,fs,hh2⟩:=(hh1.same s2).ins
   have hhf:fs=([("rules",V.non)]:List (Str×V))\/∃y,fs=([("rules",V.ref y)]:List (Str×V)):=by
    have hk:=hh1.same s2
    cases st with
    | none =>
     obtain⟨d',hk⟩:=hk
     rw[hh2]at hk
     cases hk
     exact .inl rfl
    | some r0 =>
     obtain⟨d',x',b',hk,_⟩:=hk
     rw[hh2]at hk
     cases hk
     exact .inr ⟨_,rfl⟩
   have hfl:fs.length<1000:=by rcases hhf with rfl | ⟨y,rfl⟩<;>(show 1<1000;decide)
   refine⟨_,rfl,h,CH,dh,fs,rfl,hh2,TH.cl,TH.nRules,hfl,?_⟩
   refine⟨by show 1<=sizeLine;decide,λL hL=>?_⟩
   have kh:But h H2 (upd H2 h (.ins CH dh (ik "rules" (.ref x) fs))):=But.refl.at
   have hq3:(upd H2 h (.ins CH dh (ik "rules" (.ref x) fs))) q=some (.ins CQ dq1 (qf a (p+1+m))):=kh _ _ (s2 _ _ hq1) (Ne.symm nhq)
   have hR3:=hR.but kh hh2 nRH
   have s':=dz (o:=.lst [.int 0]) (az.refl (upd H2 h (.ins CH dh (ik "rules" (.ref x) fs)))) hL
   refine kQ _ L ⟨ak,⟨_,hle,⟨dq1,s' _ _ hq3⟩,erest⟩,⟨dh,x,t,?_,hR3.same s',ej,by omega⟩,λb o hb n1 n2=>s' _ _ (kh _ _ (s2 _ _ (k1 _ _ hb n2)) n1),by show 1<=40000;decide⟩
   refine s' _ _ ?_
   rw[ak]
   rcases hhf with rfl | ⟨y,rfl⟩<;>rfl
end
inductive aad:List Int->List (List Nat)->List Int->Prop
 | nil {l:List Int}:aad l [] l
 | cons {l m r:List Int}{ns:List Nat}{rs:List (List Nat)}:PyFlat.row l=some (Tafl.asInts ns,m)->aad m rs r->aad l (ns::rs) r
theorem aad.inv{l r:List Int}{ns:List Nat}{rs:List (List Nat)}(h:aad l (ns::rs) r):∃m,PyFlat.row l=some (Tafl.asInts ns,m)/\aad m rs r:=by
 cases h with
 | cons h1 h2=>exact⟨_,h1,h2⟩
theorem aot{l:List Int}(ok:LOk l){p m:Nat}{ns:List Nat}(e:(l.drop (p+1)).take m=Tafl.asInts ns):ns.length<=30000/\∀x∈ns,x<=4294967295:=by
 have h1:ns.length=((l.drop (p+1)).take m).length:=by rw[e];unfold Tafl.asInts;rw[List.length_map]
 refine⟨by rw[h1,List.length_take,List.length_drop];have:=ok.len;omega,λx hx=>?_⟩
 have hm:(x:Int)∈Tafl.asInts ns:=List.mem_map.mpr ⟨x,hx,rfl⟩
 rw[<-e]at hm
 have:=(ok.nn _ (List.mem_of_mem_drop (List.mem_of_mem_take hm))).2
 omega
section
variable{P:Program}{w:World}{K:PySem.W.Frag}{mg:Str->Option Value}{base:Heap}
theorem axx{f CH CR CQ NT RF:Addr}(F:Fn K "answer_make" "answer_make" afr ["hall", "queue"] f)(TR:RlT K CR)(TQ:QuT K CQ)(nRQ:CR≠CQ)(mR:MD P w K mg base CQ CX0 2 "take_row" ["self"] (akg K CQ))(gM:GD P w K mg base (XC P w) 9 "made_rules" ["name", "facts", "cells"] (aq2 CR NT))
  (gC:GD P w K mg base CX0 1 "counted" ["row"] abr) (hG:ux mg "LISTED_GROUND" [83,88,35]) (hS:ux mg "LISTED_START" [104,109]) (rN:isRef K RF NT):Def P w K mg base (XC P w) 10 f ["hall", "queue"] (xx K CH CR CQ RF 6):=by
 obtain⟨fR,mR,DR⟩:=mR
 obtain⟨fM,gM,DM⟩:=gM
 obtain⟨fC,gC,DC⟩:=gC
 obtain⟨zG,uG,hG,rG,eG⟩:=hG
 obtain⟨zS,uS,hS,rS,eS⟩:=hS
 refine F.okX apc (λvs H Q E h=>?_) (λcdv A outer s H vs Q E hr h=>?_)
 ·obtain⟨h,q,a,l,p,s,out,s',rest,rfl,_⟩:=h
  rfl
 ·obtain⟨h,q,a,l,p,st,out,s',rest,rfl,⟨dq,hq⟩,hp,hs,lok,hh,nhq,sem,kQ,kE⟩:=h
  have nd:=apc.nd
  have hr2:=hr.mono (j:=2) (by decide)
  have hr1:=hr.mono (j:=1) (by decide)
  refine⟨_,au (cz (i:=2) nd rfl (Or.inl rfl) (jf (pv 1) TQ.cl mR DR hr2 bu))
   (au (cz (i:=3) nd rfl (Or.inl rfl) (jf (pv 1) TQ.cl mR DR hr2 bu))
   (au (aif (i:=4) (own:=[("sign",5)]) rfl nd rfl rfl (aki rfl rfl rfl rfl) (afg (gw acg (di (by rfl) hG rG) (di (by rfl) hS rS))) (vp (N:=["hall", "queue", "name", "facts", "cells", "sign"]) (sc:=bj afr) (by decide +kernel))
    (λ_ _ _ _ _=>gm (i:=5) nd rfl (Or.inl rfl)) (λ_ _ _ _ _=>aax) (λ_ _ _ _ _=>jf (pv 1) TQ.cl mR DR hr2 bu))
   (bh (dj (d8 DC hr1 rfl gC bu (aj (dw (d8 DM hr rfl gM ir (aj (pv 2) (aj (pv 3) (aj (pv 4) aq)))) rfl) aq)))))),?_⟩
  obtain⟨n,f,a0,b0,c0,d0,e0,r1,r2,r3,r4,r5,r6,q0,q1,q2,q3,q4,q5,q6,rfl,rfl⟩:=Hm.a2g sem
  have llen:=lok.len
  obtain⟨m0,t1,t2,t3,t4⟩:=aio q0
  refine⟨_,rfl,q,dq,_,rfl,hq,rfl,q,a,p,m0,l,rfl,⟨dq,hq⟩,hs,t1,t2,λH1 L1 _ hL1 hQ1 k1=>?_⟩
  rw[t3]at hL1
  have hh1:=hh.but k1 hq nRQ nhq
  have hs1:=zu hs k1 hq
  have nlen:n.length<=30000:=by
   have:=congrArg List.length t3
   unfold Hm.bI at this
   rw[List.length_map,List.length_take,List.length_drop]at this
   omega
  obtain⟨dq1,hq1⟩:=hQ1
  rw[<-t4]at q1
  obtain⟨m1,v1,v2,v3,v4⟩:=aio q1
  refine⟨_,rfl,q,dq1,_,rfl,hq1,rfl,q,a,_,m1,l,rfl,⟨dq1,hq1⟩,hs1,v1,v2,λH2 L2' _ hL2 hQ2 k2=>?_⟩
  have fb:=aot lok v3
  rw[v3,aal]at hL2
  have hh2:=hh1.but k2 hq1 nRQ nhq
  have hs2:=zu hs1 k2 hq1
  have hL12:=pq hL1 k2 hq1
  have k02:=k1.trans k2
  obtain⟨dq2,hq2⟩:=hQ2
  generalize hp2:p+1+m0+1+m1=p2 at *
  have rows:aad (l.drop p2) [a0,b0,c0,d0,e0] rest:=by
   rw[v4]
   exact .cons q2 (.cons q3 (.cons q4 (.cons q5 (.cons q6 .nil))))
  have zt:Txt (zG++zS) [83,88,35,104,109]:=Txt.append (rm eG) (rm eS)
  have zl:(zG++zS).cps.size=5:=zt.len
  have gl:zG.length=3:=Txt.len (rm eG)
  have sl:zS.length=2:=Txt.len (rm eS)
  refine⟨_,_,rfl,rfl,by rw[gl,sl];decide,_,rfl,λD hD=>?_⟩
  have nqD:q≠D:=bx hq2 hD
  have nhD:h≠D:=let ⟨_,_,z⟩:=hh2.ins;bx z hD
  refine aey 5 (λi Hc=>∃p' dq',p'<=l.length/\Hc q=some (.ins CQ dq' (qf a p'))/\But q H2 Hc/\aad (l.drop p') ([a0,b0,c0,d0,e0].drop i) rest/\(∀ll∈[a0,b0,c0,d0,e0].take i,ll.length<=30000)/\∃qs:List Addr,Hc D=some (.lst (qs.map V.ref))/\Paired (λx ll=>x≠D/\Hc x=some (.lst (du ll))) qs ([a0,b0,c0,d0,e0].take i))
   ⟨p2,dq2,v2,by rw[ao nqD];exact hq2,But.refl.new hD,rows,(λ_ z=>nomatch z),[],ak,.nil⟩ ?_ ?_
  ·rintro i Hc hi ⟨p',dq',hp',hqc,kc,hrows,hbnd,qs,hDc,hPc⟩
   refine⟨by show i<(zG++zS).cps.size;omega,?_⟩
   rintro x H3 ⟨rfl,c1,hc1,rfl⟩
   have hi5:i<([a0,b0,c0,d0,e0]:List (List Nat)).length:=hi
   generalize hLL:([a0,b0,c0,d0,e0]:List (List Nat))=LL at *
   have hdr:LL.drop i=LL[i]::LL.drop (i+1):=List.drop_eq_getElem_cons hi5
   rw[hdr]at hrows
   obtain⟨mm,hrow,hrows⟩:=hrows.inv
   obtain⟨m2,w1,w2,w3,w4⟩:=aio hrow
   have lb:=aot lok w3
   have tk:LL.take (i+1)=LL.take i++[LL[i]]:=by rw[List.take_succ,List.getElem?_eq_getElem hi5];rfl
   have hsc:=zu hs2 kc hq2
   refine⟨rfl,_,rfl,q,dq',_,rfl,hqc,rfl,q,a,p',m2,l,rfl,⟨dq',hqc⟩,hsc,w1,w2,λH4 L4 hL40 hL4 hQ4 k4=>?_⟩
   rw[w3,aal]at hL4
   obtain⟨dq4,hq4⟩:=hQ4
   have hD4:=k4 _ _ hDc (Ne.symm nqD)
   have nL4D:L4≠D:=Ne.symm (bx hDc hL40)
   have hlp:=je hPc
   rw[List.length_take]at hlp
   refine⟨_,hD4,by rw[List.length_map,sizeLine_eq];omega,p'+1+m2,dq4,w2,by rw[ao nqD];exact hq4,λb o hb nb=>?_,by rw[w4];exact hrows,?_,qs++[L4],by rw[ak,List.map_append];rfl,?_⟩
   ·rw[ao (bx hb hD)]
    exact k4 _ _ (kc _ _ hb nb) nb
   ·intro ll hll
    rw[tk]at hll
    rcases List.mem_append.mp hll with z | z
    ·exact hbnd ll z
    ·rw[List.mem_singleton.mp z]
     exact lb.1
   ·rw[tk]
    refine adn ⟨nL4D,by rw[ao nL4D];exact hL4⟩ (m9 (λx ll z=>⟨z.1,?_⟩) hPc)
    rw[ao z.1]
    exact k4 _ _ z.2 (gb z.2 hqc (by intro z;cases z))
  ·rintro Hc ⟨p',dq',hp',hqc,kc,hrows,hbnd,qs,hDc,hPc⟩
   refine⟨by show(zG++zS).cps.size<=5;omega,?_⟩
   have hrest:l.drop p'=rest:=by
    cases hrows
    rfl
   have bb:∀ll∈[a0,b0,c0,d0,e0],ll.length<=30000:=hbnd
   have inn:agl n f a0 b0 c0 d0 e0:=⟨nlen,fb.1,fb.2,bb a0 (by simp),bb b0 (by simp),bb c0 (by simp),bb d0 (by simp),bb e0 (by simp)⟩
   have hh3:=hh2.but kc hq2 nRQ nhq
   have k03:=k02.trans kc
   refine⟨_,rfl,_,rfl,_,rfl,L1,L2',D,n,f,a0,b0,c0,d0,e0,rfl,by rw[ac4];exact pq hL12 kc hq2,pq hL2 kc hq2,⟨qs,hDc,m9 (λ_ _ z=>z.2) hPc⟩,inn,?_⟩
   have em:=Hm.aws n f a0 b0 c0 d0 e0
   rw[em]at kQ kE
   cases hmk:Hm.wg n f a0 b0 c0 d0 e0 with
   | none =>
    rw[hmk]at kE
    intro dx L H' a1 a2 s'
    exact kE NT dx L H' rN a1 ⟨a2,⟨p',hp',⟨dq',s' _ _ hqc⟩,hrest⟩,hh3.same s',(jr.uo k03).trans (.of s'),by show 1<=40000;decide⟩
   | some t =>
    rw[hmk]at kQ
    have tlen:t.length<=33000:=by
     unfold Hm.wg at hmk
     split at hmk
     ·rename_i hcan
      have can:=(Hm.ael f).mp hcan
      split at hmk
      ·split at hmk
       ·injection hmk with hmk
        rw[<-hmk]
        have bnd:∀k,f.getD k 0<10 ^ 20:=λk=>by
         by_cases hk:k<f.length
         ·have g1:f.getD k 0=f[k]:=by simp[List.getD,hk]
          have g2:=fb.2 f[k] (List.getElem_mem hk)
          rw[g1]
          omega
         ·have g1:f.getD k 0=0:=by simp[List.getD,Nat.le_of_not_lt hk]
          rw[g1]
          decide
        have:=Hm.a4z (n:=n) (a:=a0) (b:=b0) (c:=c0) (d:=d0) (e:=e0) can (bnd 0) (bnd 1) (bnd 11)
        omega
       ·cases hmk
      ·cases hmk
     ·cases hmk
    intro H4 x r _ hR s4
    obtain⟨dx,tt,n',f',c',g,j1,j2,j3,j4,j5,j6⟩:=hR
    refine⟨x,CR,dx,_,_,rfl,j1,TR.cl,TR.nText,rfl,tt,_,rfl,j2,by rw[uf];omega,λH' L _ hL s'=>kQ H' L ⟨?_,⟨p',hp',⟨dq',s' _ _ (s4 _ _ hqc)⟩,hrest⟩,hh3.same (s4.trans s'),(jr.uo k03).trans (.of (s4.trans s')),?_⟩⟩
    ·rw[hL,ah7]
    ·show((0:Int)::(t.length:Int)::bI t).length<=40000
     unfold Hm.bI
     rw[List.length_cons,List.length_cons,List.length_map]
     omega
end
open Hm (Sem bI ofR aac)
section
variable{X:Cx}{CX:CXT}{k:Nat}{f:Addr}{ps:List Str}{sp:Sp}{E:XK}{pos:Pos}{e func:Expr}{es:List Expr}{t:TA}{tf:TE}
theorem azo(D:Def X.prog X.w X.K X.mg X.base CX k f ps sp)(hr:fj k X.A)(hx:Passes CX X E)(hf:PE X func tf)(ha:PA X (e::es) t)(hst:starEach (e::es) X.env=(false,eval e X.env)::starEach es X.env:=by rfl)(hpl:(backTo pos (starEach es X.env)).any (·.1)=false:=by rfl)
  (he:eval (.Call func (e::es) [] pos) X.env=(do callWith pos (<-eval func X.env) [] (backTo pos (starEach (e::es) X.env)) (backToKw pos (keywordEach [] X.env))):=by rfl) :
  PE X (.Call func (e::es) [] pos) (λσ H Q=>tf σ H λv H1=>v=.ref f/\t σ H1 λvs H2=>sp vs H2 Q E):=by
 obtain⟨fd,F,b⟩:=D.out
 intro pins s σ H Q I h
 refine Call_ (thn (hf pins s σ H _ I h) λfv s1 ⟨v,H1,I1,r1,ev,q⟩=>?_) he
 subst ev
 obtain rfl:fv=Value.ref f:=r1
 refine PySem.W.callWith_K (first:=[]) (h₀:=X.base) I.ok.mod.kin D.kp (thn (ha pos pins s1 σ H1 _ I1 q) λus s2 ⟨vs,H2,I2,r,q2⟩=>⟨I2.kIn,?_⟩) hst hpl
 exact acn (us:=us) F hr b .nil hx I2 r (by rw[List.append_nil];exact q2)
end
theorem avr{X:Cx}{K:PySem.W.Frag}(h:X.K=K:=by rfl):IxR X (aih K):=h▸o7
theorem az7{X:Cx}{K:PySem.W.Frag}{e:Expr}{f:Str}{pos:Pos}{ta:TE}(he:PE X e ta)(hb:attributeBase e f X.env (eval e X.env)=eval e X.env)(hK:X.K=K:=by rfl):PE X (.Attribute e f pos) (aro K ta f):=hK▸az6 he hb
def akq(P:Program)(w:World)(K:PySem.W.Frag)(mg:Str->Option Value)(base:Heap)(CH CR CQ RF:Addr):Prop:=∃(aC:Addr) (vs:List V),mg "CALLS" = some (.ref aC)/\(∀H,SqT K H aC vs)/\vs.length=10/\∀n,n<10->∃f,vs[n]? = some (.ref f)/\Def P w K mg base (XC P w) 10 f ["hall", "queue"] (xx K CH CR CQ RF n)
def aqh(K:PySem.W.Frag)(CH CR CQ:Addr):Sp:=λvs H Q _=>∃(h q a:Addr) (l:List Int) (p:Nat) (s:Option Rules) (n:Nat) (inp out:List Int) (s':Option Rules) (rest:List Int),vs=[.ref h,.ref q]/\QAt CQ H q a p/\SqL K H a (l.map V.int)/\LOk l/\o8 CH CR H h s/\h≠q/\n<10/\l.drop p=(n:Int)::inp /\
 Sem n s inp out s' rest/\∀H' L,Done CH CR CQ h q a l H out s' rest L H'->Q (.ref L) H'
section
variable{P:Program}{w:World}{K:PySem.W.Frag}{mg:Str->Option Value}{base:Heap}
theorem axt{f CH CR CQ RF:Addr}(F:Fn K "answer" "answer" ajc ["hall", "queue"] f)(TQ:QuT K CQ)(nRQ:CR≠CQ)(mN:MD P w K mg base CQ CX0 1 "take_number" ["self"] (abt K CQ))(hC:akq P w K mg base CH CR CQ RF)(hl:mg "len" = none)(hRF:mg "Refusal" = some (.ref RF)):
  Def P w K mg base CX0 11 f ["hall", "queue"] (aqh K CH CR CQ):=by
 obtain⟨fN,mN,DN⟩:=mN
 obtain⟨aC,vsC,gC,hC,lC,hD⟩:=hC
 refine F.ok0 ao9 (λvs H Q E h=>?_) (λcdv A outer s H vs Q E hr h=>?_)
 ·obtain⟨h,q,a,l,p,s,n,inp,out,s',rest,rfl,_⟩:=h
  rfl
 ·obtain⟨h,q,a,l,p,st,n,inp,out,s',rest,rfl,⟨dq,hq⟩,hs,lok,hh,nhq,n10,hin,sem,kQ⟩:=h
  have nd:=ao9.nd
  have hr1:=hr.mono (j:=1) (by decide)
  obtain⟨fn,hfn,Dn⟩:=hD n n10
  refine⟨_,au (cz (i:=2) nd rfl (Or.inl rfl) (jf (pv 1) TQ.cl mN DN hr1 bu))
   (au (jl (iy xr (pv 2) (jg xn (by rfl) hl PySem.boot_len (aj (di (by rfl) gC (aay aC)) aq)) (gf _)) a0n jq)
   (bh (a0l (i:=3) rfl nd rfl rfl rfl hRF (λpl E' EX hp=>bh (dj (azo Dn hr hp (gk (avr (K:=K)) (di (by rfl) gC (aay aC)) (pv 2) (λ_ _=>rfl)) (aj (pv 0) (aj (pv 1) aq)))))
    (λe=>bh (dj (az7 (K:=K) (pv 3) rfl))) rfl rfl))),?_⟩
  obtain⟨e1,e2,e3⟩:=drop_cons hin
  refine⟨_,rfl,q,dq,_,rfl,hq,rfl,q,a,p,l,(n:Int),rfl,⟨dq,hq⟩,hs,e1,λH1 hQ1 k1=>?_⟩
  have hh1:=hh.but k1 hq nRQ nhq
  have hs1:=zu hs k1 hq
  refine⟨_,rfl,aC,_,rfl,.inr (hC _),_,_,rfl,rfl,_,rfl,?_⟩
  rw[lC,show decide (((10:Nat):Int)<=(n:Int))=false from decide_eq_false (by omega)]
  refine gh ?_
  refine⟨λcv dx H'=>∃C d L,(cv=.ref C\/cv=late C)/\dx=some d/\isRef K RF C/\H' d=some (.xd [("told",.ref L)])/\Done CH CR CQ h q a l H1 out s' rest L H',?_,?_⟩
  ·refine⟨_,rfl,aC,_,_,_,rfl,rfl,hC _,gr (j:=n) hfn,rfl,_,rfl,_,rfl,h,q,a,l,p+1,st,out,s',rest,rfl,hQ1,e3,hs1,lok,hh1,nhq,by rw[e2];exact sem,λH' L d=>kQ H' L ⟨d.1,d.2.1,d.2.2.1,(jr.uo k1).trans d.2.2.2.1,d.2.2.2.2⟩,λC dx L H' rf hx d=>⟨⟨C,dx,L,.inl rfl,rfl,rf,hx,d⟩,⟨C,dx,L,.inr rfl,rfl,rf,hx,d⟩⟩⟩
  ·rintro e C dx H' hEX he
   obtain⟨L,rf,hx,d⟩:∃L,isRef K RF C/\H' dx=some (.xd [("told",.ref L)])/\Done CH CR CQ h q a l H1 out s' rest L H':=by
    rcases hEX with ⟨C',d',L,hc,hd,rf,hx,dn⟩ | ⟨C',d',L,hc,hd,rf,hx,dn⟩
    ·cases hd
     rcases hc with hc | hc
     ·cases hc
      exact⟨L,rf,hx,dn⟩
     ·cases hc
    ·cases hd
     rcases hc with hc | hc
     ·cases hc
     ·have:C=C':=by
       unfold late at hc
       injection hc with hc
       exact Int.ofNat_inj.mp hc
      subst this
      exact⟨L,rf,hx,dn⟩
   refine⟨rf.1,_,rfl,e,C,dx,_,_,rfl,he,hx,rf.2,rfl,kQ H' L ⟨d.1,d.2.1,d.2.2.1,(jr.uo k1).trans d.2.2.2.1,d.2.2.2.2⟩⟩
end
section
variable{X:Cx}{CX:CXT}{k:Nat}{f C:Addr}{ps:List Str}{sp:Sp}{E:XK}{x:Str}{p pos:Pos}
theorem azq(M:Mk X.K C f)(D:Def X.prog X.w X.K X.mg X.base CX k f ps sp)(hr:fj (k+1) X.A)(hg:Gl X x)(hm:X.mg x=some (.ref C))(hx:Passes CX X E)(hdb:(x==("__debug__" : Str))=false:=by decide):PE X (.Call (.Name x p) [] [] pos) (aga C sp [] E jb) :=
 let ⟨_,F,b⟩:=D.out;az1 M F hr hg hm b .nil hx hdb
end
theorem a3e{K:PySem.W.Frag}{h q a C C' d d':Addr}{H H':Hp}{xs:List V}{fs fs':List (Str×V)}(s:SqL K H a xs)(k:jr h q H H')(hh:H h=some (.ins C d fs))(hq:H q=some (.ins C' d' fs')):SqL K H' a xs:=by
 rcases s with (s | ⟨o,s⟩) | s
 ·exact .inl (.inl (k _ _ s (gb s hh (by intro z;cases z)) (gb s hq (by intro z;cases z))))
 ·exact .inl (.inr ⟨o,k _ _ s (gb s hh (by intro z;cases z)) (gb s hq (by intro z;cases z))⟩)
 ·exact .inr s
theorem a3f{K:PySem.W.Frag}{T a:Addr}{H:Hp}{xs:List V}(s:SqL K H a xs)(n:a≠T)(u:HO):SqL K (upd H T u) a xs:=by
 rcases s with (s | ⟨o,s⟩) | s
 ·exact .inl (.inl (by rw[ao n];exact s))
 ·exact .inl (.inr ⟨o,by rw[ao n];exact s⟩)
 ·exact .inr s
def SqO(K:PySem.W.Frag)(H:Hp)(a T:Addr)(xs:List V):Prop:=(a≠T/\SqL K H a xs)\/∀Hx,SqL K Hx a xs
theorem SqO.at{K:PySem.W.Frag}{H:Hp}{a T:Addr}{xs:List V}(h:SqO K H a T xs):SqL K H a xs:=h.elim (λz=>z.2) λz=>z H
theorem SqO.upd{K:PySem.W.Frag}{H:Hp}{a T:Addr}{xs:List V}(h:SqO K H a T xs)(o:HO):SqO K (upd H T o) a T xs:=h.elim (λz=>.inl ⟨z.1,a3f z.2 z.1 o⟩) .inr
theorem ue.off{CR:Addr}{H:Hp}{x T:Addr}{r:Rules}{b:Bytes}{od:Obj}{u:HO}(h:ue CR H x r b)(hT:H T=some (.frz od u))(o:HO):ue CR (upd H T o) x r b:=by
 obtain⟨dx,t,nn,f,c,g,h1,h2,h3,h4,⟨qs,h5,h6⟩,h7⟩:=h
 have kk:∀{L:Addr}{v:HO},H L=some v->(∀d w,v≠.frz d w)->(upd H T o) L=some v:=λe nz=>by rw[ao (gb e hT (nz _ _))];exact e
 exact⟨dx,t,nn,f,c,g,kk h1 (by intro _ _ z;cases z),kk h2 (by intro _ _ z;cases z),kk h3 (by intro _ _ z;cases z),kk h4 (by intro _ _ z;cases z),⟨qs,kk h5 (by intro _ _ z;cases z),m9 (λp l z=>⟨z.1,kk z.2 (by intro _ _ z;cases z)⟩) h6⟩,kk h7 (by intro _ _ z;cases z)⟩
theorem o8.off{CH CR:Addr}{H:Hp}{h T:Addr}{s:Option Rules}{od:Obj}{u:HO}(k:o8 CH CR H h s)(hT:H T=some (.frz od u))(o:HO):o8 CH CR (upd H T o) h s:=by
 cases s with
 | none=>obtain⟨dx,k⟩:=k;exact⟨dx,by rw[ao (gb k hT (by intro z;cases z))];exact k⟩
 | some r=>obtain⟨dx,x,b,k1,k2,k3⟩:=k;exact⟨dx,x,b,by rw[ao (gb k1 hT (by intro z;cases z))];exact k1,k2.off hT o,k3⟩
def akc(K:PySem.W.Frag):Sp:=λvs H Q _=>∃(a:Addr) (l res:List Int) (k:Nat),vs=[.ref a]/\SqL K H a (l.map V.int)/\LOk l/\k<=300/\aac k none l res/\∀H' L,H' L=some (.lst (res.map V.int))->Q (.ref L) H'
def akz(K:PySem.W.Frag)(CH CR CQ a h q T:Addr)(l res:List Int)(k0:Nat)(m:Nat)(σ:L2.St)(H:Hp):Prop:=∃(p:Nat) (s:Option Rules) (sofar more:List Int) (v4:Option V),σ=[some (.ref a),some (.ref h),some (.ref q),some (.ref T),v4]/\p<=l.length/\QAt CQ H q a p/\(∀o,o8 CH CR (upd H T o) h s)/\SqO K H a T (l.map V.int) /\
 H T=some (.lst (sofar.map V.int))/\m<=k0/\sofar.length<=40001*(k0-m)/\aac m s (l.drop p) more/\res=sofar++more
theorem a4s{H:Hp}{T:Addr}{o:HO}(h:H T=some o):upd H T o=H:=by
 funext b
 by_cases e:b=T
 ·rw[e,ak,h]
 ·rw[ao e]
section
variable{P:Program}{w:World}{K:PySem.W.Frag}{mg:Str->Option Value}{base:Heap}
theorem ax4{f CH CR CQ:Addr}{fd:FuncData}(F:Fun K "answers" "answers" abo f fd)(TQ:QuT K CQ)(mH:∃fH,Mk K CH fH/\Def P w K mg base CX0 1 fH ["self"] (aqx CH))(gH:mg "Hall" = some (.ref CH))(mQ:∃fQ,Mk K CQ fQ/\Def P w K mg base CX0 1 fQ ["self", "calls"] (aq5 CQ))(gQ:mg "Queue" = some (.ref CQ))
  (mM:MD P w K mg base CQ CX0 1 "has_more" ["self"] (aqv K CQ)) (gA:GD P w K mg base CX0 11 "answer" ["hall", "queue"] (aqh K CH CR CQ)) (hl:mg "len" = none):jm P w K mg base CX0 12 f fd ["calls"] (akc K):=by
 obtain⟨fH,mH,DH⟩:=mH
 obtain⟨fQ,mQ,DQ⟩:=mQ
 obtain⟨fM,mM,DM⟩:=mM
 obtain⟨fA,gA,DA⟩:=gA
 refine F.ok apg (λvs H Q E h=>?_) (λcdv A outer s H vs Q E hr h=>?_)
 ·obtain⟨a,l,res,k,rfl,_⟩:=h
  rfl
 ·obtain⟨a,l,res,k0,rfl,hs,lok,hk0,play,kQ⟩:=h
  have nd:=apg.nd
  have hr1:=hr.mono (j:=1) (by decide)
  have hr2:=hr.mono (j:=2) (by decide)
  refine⟨_,au (cz (i:=1) nd rfl (Or.inl rfl) (azq mH DH hr2 rfl gH bu))
   (au (cz (i:=2) nd rfl (Or.inl rfl) (afa mQ DQ hr2 rfl gQ bu (aj (pv 0) aq)))
   (au (cz (i:=3) nd rfl (Or.inl rfl) (ju aq))
   (au (afj PassesOwn.never (uc (jf (pv 2) TQ.cl mM DM hr1 bu))
    (au (cz (i:=4) nd rfl (Or.inl rfl) (azz (d8 DA hr rfl gA bu (aj (pv 1) (aj (pv 2) aq)))))
    (au (ig (su PySem.F.plainAttrs_list PySem.F.slot_list_append PySem.F.type_list_append ace (pv 3) (aj (jg xn (by rfl) hl PySem.boot_len (aj (pv 4) aq)) aq)))
    (bh (ig (su PySem.F.plainAttrs_list PySem.F.slot_list_extend PySem.F.type_list_extend aan (pv 3) (aj (pv 4) aq)))))))
   (bh (dj (pv 3)))))),?_⟩
  refine λh dh nh ndh nex=>⟨h,dh,rfl,ak,rfl,?_⟩
  have s1:az H (upd (upd (upd H dh (.own h)) h (.ins CH dh [])) h (.ins CH dh [("rules",.non)])):=ji (ji (dz (az.refl H) ndh) nh) nh
  generalize hH1:upd (upd (upd H dh (.own h)) h (.ins CH dh [])) h (.ins CH dh [("rules",.non)])=H1 at *
  have hh1:H1 h=some (.ins CH dh [("rules",.non)]):=by rw[<-hH1,ak]
  refine⟨_,rfl,λq dq nq ndq neq=>⟨q,dq,a,rfl,ak,rfl,?_⟩⟩
  have s2:az H1 (upd (upd (upd (upd H1 dq (.own q)) q (.ins CQ dq [])) q (.ins CQ dq [("calls",.ref a)])) q (.ins CQ dq (qf a 0))):=ji (ji (ji (dz (az.refl H1) ndq) nq) nq) nq
  generalize hH2:upd (upd (upd (upd H1 dq (.own q)) q (.ins CQ dq [])) q (.ins CQ dq [("calls",.ref a)])) q (.ins CQ dq (qf a 0))=H2 at *
  have hq2:H2 q=some (.ins CQ dq (qf a 0)):=by rw[<-hH2,ak]
  have hh2:=s2 _ _ hh1
  have nhq:h≠q:=bx hh1 nq
  refine⟨Nat.zero_le _,λT hT=>?_⟩
  have s3:=dz (o:=.lst []) (az.refl H2) hT
  refine⟨akz K CH CR CQ a h q T l res k0,⟨k0,0,none,[],res,none,rfl,Nat.zero_le _,⟨dq,s3 _ _ hq2⟩,λo=>⟨dh,by rw[yz,ao (bx hh2 hT)];exact hh2⟩,SqO.upd ?_ _,ak,Nat.le_refl _,Nat.zero_le _,by rw[List.drop_zero];exact play,rfl⟩,?_⟩
  ·rcases(s1.trans s2).seq hs with z | z
   ·refine .inl ⟨?_,.inl z⟩
    rcases z with z | ⟨d,z⟩<;>exact bx z hT
   ·exact .inr λ_=>.inr z
  rintro m σ H' ⟨p,st,sofar,more,v4,rfl,hp,⟨dq',hq'⟩,hhT,hsT,hT',hm,hlen,hpl,hres⟩
  have hh':=hhT (.lst (sofar.map V.int))
  have hs':=hsT.at
  rw[a4s hT']at hh'
  refine⟨_,rfl,q,dq',_,rfl,hq',rfl,q,a,p,l,rfl,⟨dq',hq'⟩,hs',_,rfl,?_⟩
  generalize hdr:l.drop p=inp0 at hpl
  cases hpl with
  | nil =>
   have:¬p<l.length:=λz=>by
    rw[List.drop_eq_nil_iff]at hdr
    omega
   rw[decide_eq_false this]
   refine gh ⟨_,rfl,kQ H' T ?_⟩
   rw[hT',hres,List.append_nil]
  | @cons k s0 s' n inp out rest more' n10 sem hpl' =>
   obtain⟨e1,e2,e3⟩:=drop_cons hdr
   rw[decide_eq_true (show p<l.length by omega)]
   refine d9 ⟨akz K CH CR CQ a h q T l res k0 k,λσ2 H3 z=>⟨k,Nat.lt_succ_self _,z⟩,?_⟩
   refine⟨T,_,hT',trivial,λod=>⟨_,rfl,_,rfl,?_⟩⟩
   obtain⟨dh',fs',hhi⟩:=hh'.ins
   have nhT:h≠T:=gb hhi hT' (by intro z;cases z)
   have nqT:q≠T:=gb hq' hT' (by intro z;cases z)
   have hqF:(upd H' T (.frz od (.lst (sofar.map V.int)))) q=some (.ins CQ dq' (qf a p)):=by rw[ao nqT];exact hq'
   have hhF:(upd H' T (.frz od (.lst (sofar.map V.int)))) h=some (.ins CH dh' fs'):=by rw[ao nhT];exact hhi
   refine⟨h,q,a,l,p,st,n,inp,out,s',rest,rfl,⟨dq',hqF⟩,(hsT.upd _).at,lok,hhT _,nhq,n10,hdr,sem,λH4 L d=>?_⟩
   obtain⟨d1,⟨p',d2,⟨dq4,d3⟩,d4⟩,d5,d6,d7⟩:=d
   have hT4:H4 T=some (.frz od (.lst (sofar.map V.int))):=d6 _ _ ak (Ne.symm nhT) (Ne.symm nqT)
   have nLT:L≠T:=gb d1 hT4 (by intro z;cases z)
   have hs4:SqO K H4 a T (l.map V.int):=(hsT.upd _).elim (λz=>.inl ⟨z.1,a3e z.2 d6 hhF hqF⟩) .inr
   refine⟨hT4,?_⟩
   have b1:sofar.length<=40001*300:=Nat.le_trans hlen (Nat.mul_le_mul_left _ (by omega))
   have hL5:(upd H4 T (.lst (sofar.map V.int))) L=some (.lst (out.map V.int)):=by rw[ao nLT];exact d1
   refine⟨_,rfl,.inl ⟨rfl,_,SqL.of ak⟩,_,rfl,L,_,rfl,.inl (SqL.of hL5),T,_,_,rfl,rfl,ak,by rw[List.length_map,sizeLine_eq];omega,?_⟩
   rw[yz]
   have hL6:(upd H4 T (.lst (sofar.map V.int++[.int ((out.map V.int).length:Int)]))) L=some (.lst (out.map V.int)):=by rw[ao nLT];exact d1
   refine⟨_,rfl,.inl ⟨rfl,_,SqL.of ak⟩,_,rfl,T,L,_,_,rfl,rfl,ak,hL6,?_,?_⟩
   ·rw[List.length_append,List.length_map,List.length_map,sizeLine_eq]
    show sofar.length+1+out.length<=_
    omega
   rw[yz]
   refine⟨p',s',sofar++((out.length:Int)::out),more',_,rfl,d2,⟨dq4,by rw[ao nqT];exact d3⟩,λo=>by rw[yz];exact d5.off hT4 o,hs4.upd _,?_,by omega,?_,by rw[d4];exact hpl',?_⟩
   ·rw[ak,List.length_map,List.map_append,List.append_assoc]
    first | done | rfl
   ·rw[List.length_append,List.length_cons]
    have:k0-k=(k0-(k+1))+1:=by omega
    rw[this,Nat.mul_succ]
    omega
   ·rw[hres,List.append_assoc]
end
open Tafl
def FK(K:W.Frag)(x qual:Str)(st:Stmt)(f:Addr):Prop:=∃(oc:Value) (od:Option Addr) (kV doc pm:Value) (an:Option Addr) (cdv ct:Value) (osl:Array (Option Value)),
 K.lookup f=some ⟨oc,od,.func (W.fnOf x qual (aag st) (uh st) (bj st) .none kV doc pm an cdv ct),osl⟩/\W.codeIn K cdv qual=true/\W.keepIn K (.ref f)=true
theorem fk{K:W.Frag}{x qual:Str}{st:Stmt}{f:Addr}{oc:Value}{od:Option Addr}{kV doc pm:Value}{an:Option Addr}{cdv ct:Value}{osl:Array (Option Value)}(l:K.lookup f=some ⟨oc,od,.func (W.fnOf x qual (aag st) (uh st) (bj st) .none kV doc pm an cdv ct),osl⟩)(c:W.codeIn K cdv qual=true)(k:W.keepIn K (.ref f)=true):FK K x qual st f:=⟨_,_,_,_,_,_,_,_,_,l,c,k⟩
theorem dg{K:W.Frag}{x qual:Str}{st:Stmt}{f:Addr}{ps:List Str}(h:FK K x qual st f)(hb:∀(kV doc pm:Value) (an:Option Addr) (cdv ct:Value) (us:List Value),us.length=ps.length->bindArgs (W.fnOf x qual (aag st) (uh st) (bj st) .none kV doc pm an cdv ct) ⟨us,[]⟩=pure (ps.zip us)):Fn K x qual st ps f:=by
 obtain⟨oc,od,kV,doc,pm,an,cdv,ct,osl,l,c,k⟩:=h
 exact⟨⟨_,ag9 l c k,(ag9 l c k).binds hb⟩⟩
theorem ud{K:W.Frag}{a:Addr}{od:Option Addr}{its:Array Value}{n:Nat}{sl:Array (Option Value)}{vs:List V}(l:K.lookup a=some ⟨.type "tuple",od,.seq its n,sl⟩)(hz:Nat.ble its.size 1000=true)(hv:Vals vs its.toList)(H:Hp):SqT K H a vs:=.inr ⟨_,its,n,l,rfl,rfl,Nat.le_of_lt (a2w (Nat.le_of_ble_eq_true hz)),hv⟩
theorem za{K:W.Frag}{a:Addr}{od:Option Addr}{its:Array Value}{n:Nat}{sl:Array (Option Value)}{zs:List Str}{ws:List Bytes}(l:K.lookup a=some ⟨.type "tuple",od,.seq its n,sl⟩)(hz:Nat.ble its.size 1000=true)(hv:Vals (zs.map V.str) its.toList)
  (hw:zs.map (λz=>z.cps.toList)=ws.map (λw=>w.map UInt8.toNat)):o9 K (.ref a) ws:=⟨a,zs,rfl,ud l hz hv,hw⟩
theorem al7{K:W.Frag}{C R:Addr}{cd:ClassData}(h1:W.subIn K (.ref R) (.type "BaseException")=some true)(h2:W.clsIn K R=some cd)(h3:W.typeIn K (.ref R)=some (.type "type"))(h4:W.subIn K (.ref C) (.ref R)=some true):W.exmOne K (.ref C) (.ref R)=some true:=by
 unfold W.exmOne W.kitCls
 rw[h1,if_pos (by rfl)]
 dsimp only
 rw[h2,h3,if_pos (by simp),h4]
theorem all_mk{P:Program}{w:World}{K:W.Frag}{h:Heap}{mg:Str->Option Value}{fa:Addr}
  {RF OR NR TF NT CS C CR CH CQ:Addr}{q2e q2f q2g q2h q2i q2j q2k q3e q3f q3g q3h q3i q3j q3k q3l q9m q9n q9o q9p q9q q9r q9s q9t q9u q9v q9w q9x q9y q9z qa0 qa1 q2l qa2 qa3 qa4 qa5 qa6 qa7 qa8 qa9 qaa qab qac qad qae qaf qag qah qai q2m q3m q2n q3n q3o q3p qaj q2o q2p q2q q2r q2s q2t q2u q2v q2w q2x qak qal:Addr}{q2y q3q q9 q3r q2z qa q3s q30 q31 q32 qb q3t q33 q34 qc q3u q35 qd q3v q36 qe q3w q37 q3x:Addr}
  {qat qau qav qaw qax qay qaz qb0 qb1 qb2 qb3 qb4 qb5 qb6 qb7 qb8 qb9 qba qbb qbc qbd qbe qbf qbg qbh qbi qbj qbk qbl qbm qbn qbo qbp qbq qbr qbs qbt qbu qbv qbw qbx qby qbz qc0 qc1 qc2 qc3 qc4 qc5 qc6 qc7 qc8 qc9 qca qcb qcc qcd qce qcf qcg qch:Tok}
  {qci qcj qck qcl qcm qcn qco qcp qcq qcr qcs qct qcu qcv qcw qcx qcy qcz qd0 qd1 qd2 qd3 qd4 qd5:Option Addr}
  {qd6 qd7 qd8 qd9 qda qdb qdc qdd qde qdf qdg qdh qdi qdj qdk qdl qdm qdn qdo qdp qdq qdr qds qdt:Nat}
  {qdu qdv qdw qdx qdy qdz qe0 qe1 qe2 qe3 qe4 qe5 qe6 qe7 qe8 qe9 qea qeb qec qed qee qef qeg qeh:Array (Option Value)}
  (X:K.In h) (G:h.Ns mainGlobals mg) (hfa:mg "answers" = some (.ref fa))
  (q3y:W.nsIn K mainGlobals "Refusal" = some (some (.ref RF)))
  (q3z:W.nsIn K mainGlobals "OutOfRange" = some (some (.ref OR)))
  (q40:W.nsIn K mainGlobals "NoRules" = some (some (.ref NR)))
  (q41:W.nsIn K mainGlobals "TextFault" = some (some (.ref TF)))
  (q42:W.nsIn K mainGlobals "NoText" = some (some (.ref NT)))
  (q43:W.nsIn K mainGlobals "Sheet" = some (some (.ref CS)))
  (q44:W.nsIn K mainGlobals "Reader" = some (some (.ref C)))
  (q45:W.nsIn K mainGlobals "Rules" = some (some (.ref CR)))
  (q46:W.nsIn K mainGlobals "Hall" = some (some (.ref CH)))
  (q47:W.nsIn K mainGlobals "Queue" = some (some (.ref CQ)))
  (qam:W.findIn K (.ref RF) "__init__" = some (some (.ref q2e)))
  (qan:W.isFn K (.ref q2e)=true)
  (q4:FK K "__init__" "Refusal.__init__" afq q2e)
  (q48:W.findIn K (.ref OR) "__init__" = some (some (.ref q2f)))
  (q49:W.isFn K (.ref q2f)=true)
  (qf:FK K "__init__" "OutOfRange.__init__" aiv q2f)
  (q4a:W.findIn K (.ref NR) "__init__" = some (some (.ref q2g)))
  (q4b:W.isFn K (.ref q2g)=true)
  (qg:FK K "__init__" "NoRules.__init__" ait q2g)
  (q4c:W.findIn K (.ref TF) "__init__" = some (some (.ref q2h)))
  (q4d:W.isFn K (.ref q2h)=true)
  (q5:FK K "__init__" "TextFault.__init__" aja q2h)
  (q4e:W.findIn K (.ref NT) "__init__" = some (some (.ref q2i)))
  (q4f:W.isFn K (.ref q2i)=true)
  (qh:FK K "__init__" "NoText.__init__" aiu q2i)
  (q4g:W.findIn K (.ref CS) "__init__" = some (some (.ref q2j)))
  (q4h:W.isFn K (.ref q2j)=true)
  (qi:FK K "__init__" "Sheet.__init__" ai9 q2j)
  (q4i:W.findIn K (.ref C) "__init__" = some (some (.ref q2k)))
  (q4j:W.isFn K (.ref q2k)=true)
  (qj:FK K "__init__" "Reader.__init__" ai0 q2k)
  (q38:W.findIn K (.ref C) "peek" = some (some (.ref q3e)))
  (q39:W.isFn K (.ref q3e)=true)
  (qk:FK K "peek" "Reader.peek" ai1 q3e)
  (q4k:W.findIn K (.ref C) "take_choice" = some (some (.ref q3f)))
  (q4l:W.isFn K (.ref q3f)=true)
  (ql:FK K "take_choice" "Reader.take_choice" afp q3f)
  (q4m:W.findIn K (.ref C) "take_word" = some (some (.ref q3g)))
  (q4n:W.isFn K (.ref q3g)=true)
  (qm:FK K "take_word" "Reader.take_word" ai7 q3g)
  (q4o:W.findIn K (.ref C) "take_name" = some (some (.ref q3h)))
  (q4p:W.isFn K (.ref q3h)=true)
  (qn:FK K "take_name" "Reader.take_name" ai6 q3h)
  (q4q:W.findIn K (.ref C) "take_limit" = some (some (.ref q3i)))
  (q4r:W.isFn K (.ref q3i)=true)
  (qo:FK K "take_limit" "Reader.take_limit" ai4 q3i)
  (q4s:W.findIn K (.ref C) "take_board" = some (some (.ref q3j)))
  (q4t:W.isFn K (.ref q3j)=true)
  (qp:FK K "take_board" "Reader.take_board" ai2 q3j)
  (q4u:W.findIn K (.ref C) "take_lines" = some (some (.ref q3k)))
  (q4v:W.isFn K (.ref q3k)=true)
  (qq:FK K "take_lines" "Reader.take_lines" ai5 q3k)
  (q4w:W.findIn K (.ref C) "take_end" = some (some (.ref q3l)))
  (q4x:W.isFn K (.ref q3l)=true)
  (qr:FK K "take_end" "Reader.take_end" ai3 q3l)
  (q4y:W.nsIn K mainGlobals "is_size" = some (some (.ref q9m)))
  (qs:FK K "is_size" "is_size" ajv q9m)
  (q4z:W.nsIn K mainGlobals "is_letter" = some (some (.ref q9n)))
  (qt:FK K "is_letter" "is_letter" aju q9n)
  (q50:W.nsIn K mainGlobals "is_digit" = some (some (.ref q9o)))
  (qu:FK K "is_digit" "is_digit" ajt q9o)
  (q51:W.nsIn K mainGlobals "read_head" = some (some (.ref q9p)))
  (qv:FK K "read_head" "read_head" aj0 q9p)
  (q52:W.nsIn K mainGlobals "read_sheet" = some (some (.ref q9q)))
  (qw:FK K "read_sheet" "read_sheet" aj1 q9q)
  (q53:W.nsIn K mainGlobals "places_of" = some (some (.ref q9r)))
  (qx:FK K "places_of" "places_of" afy q9r)
  (q54:W.nsIn K mainGlobals "cells_of" = some (some (.ref q9s)))
  (qy:FK K "cells_of" "cells_of" afu q9s)
  (q55:W.nsIn K mainGlobals "more_than_one" = some (some (.ref q9t)))
  (qz:FK K "more_than_one" "more_than_one" afx q9t)
  (q56:W.nsIn K mainGlobals "stands_wrong" = some (some (.ref q9u)))
  (q10:FK K "stands_wrong" "stands_wrong" aj4 q9u)
  (q57:W.nsIn K mainGlobals "wrong_pieces" = some (some (.ref q9v)))
  (q11:FK K "wrong_pieces" "wrong_pieces" aj9 q9v)
  (q58:W.nsIn K mainGlobals "on_edge" = some (some (.ref q9w)))
  (q12:FK K "on_edge" "on_edge" ajz q9w)
  (q59:W.nsIn K mainGlobals "first_king_on_edge" = some (some (.ref q9x)))
  (q13:FK K "first_king_on_edge" "first_king_on_edge" ajq q9x)
  (q5a:W.nsIn K mainGlobals "wrong_goal" = some (some (.ref q9y)))
  (q14:FK K "wrong_goal" "wrong_goal" aj8 q9y)
  (q5b:W.nsIn K mainGlobals "seat_is_asked_for" = some (some (.ref q9z)))
  (q15:FK K "seat_is_asked_for" "seat_is_asked_for" aj2 q9z)
  (q5c:W.nsIn K mainGlobals "lacks" = some (some (.ref qa0)))
  (q16:FK K "lacks" "lacks" ajw qa0)
  (q5d:W.nsIn K mainGlobals "check_sheet" = some (some (.ref qa1)))
  (q17:FK K "check_sheet" "check_sheet" ajn qa1)
  (q5e:W.findIn K (.ref CR) "__init__" = some (some (.ref q2l)))
  (q5f:W.isFn K (.ref q2l)=true)
  (q18:FK K "__init__" "Rules.__init__" ai8 q2l)
  (q5g:W.nsIn K mainGlobals "facts_of" = some (some (.ref qa2)))
  (q19:FK K "facts_of" "facts_of" afv qa2)
  (q5h:W.nsIn K mainGlobals "lists_of" = some (some (.ref qa3)))
  (q1a:FK K "lists_of" "lists_of" ad1 qa3)
  (q5i:W.nsIn K mainGlobals "rules_of" = some (some (.ref qa4)))
  (q1b:FK K "rules_of" "rules_of" afz qa4)
  (q5j:W.nsIn K mainGlobals "turned" = some (some (.ref qa5)))
  (q1c:FK K "turned" "turned" aj5 qa5)
  (q5k:W.nsIn K mainGlobals "combined" = some (some (.ref qa6)))
  (q1d:FK K "combined" "combined" ajo qa6)
  (q5l:W.nsIn K mainGlobals "undoing" = some (some (.ref qa7)))
  (q1e:FK K "undoing" "undoing" aj6 qa7)
  (q5m:W.nsIn K mainGlobals "has_cell" = some (some (.ref qa8)))
  (q1f:FK K "has_cell" "has_cell" ajs qa8)
  (q5n:W.nsIn K mainGlobals "fits" = some (some (.ref qa9)))
  (q1g:FK K "fits" "fits" ajr qa9)
  (q5o:W.nsIn K mainGlobals "fitting_turns" = some (some (.ref qaa)))
  (q1h:FK K "fitting_turns" "fitting_turns" afw qaa)
  (q5p:W.nsIn K mainGlobals "all_choices" = some (some (.ref qab)))
  (q1i:FK K "all_choices" "all_choices" ajb qab)
  (q5q:W.nsIn K mainGlobals "can_be_written" = some (some (.ref qac)))
  (q1j:FK K "can_be_written" "can_be_written" aft qac)
  (q5r:W.nsIn K mainGlobals "signs_of" = some (some (.ref qad)))
  (q1k:FK K "signs_of" "signs_of" aj3 qad)
  (q5s:W.nsIn K mainGlobals "board_text" = some (some (.ref qae)))
  (q1l:FK K "board_text" "board_text" ajm qae)
  (q5t:W.nsIn K mainGlobals "lines_text" = some (some (.ref qaf)))
  (q1m:FK K "lines_text" "lines_text" ajx qaf)
  (q5u:W.nsIn K mainGlobals "bytes_of" = some (some (.ref qag)))
  (q1n:FK K "bytes_of" "bytes_of" afs qag)
  (q5v:W.nsIn K mainGlobals "written" = some (some (.ref qah)))
  (q1o:FK K "written" "written" aj7 qah)
  (q5w:W.nsIn K mainGlobals "made_rules" = some (some (.ref qai)))
  (q1p:FK K "made_rules" "made_rules" ajy qai)
  (q5x:W.findIn K (.ref CH) "__init__" = some (some (.ref q2m)))
  (q5y:W.isFn K (.ref q2m)=true)
  (q1q:FK K "__init__" "Hall.__init__" air q2m)
  (q5z:W.findIn K (.ref CH) "known_rules" = some (some (.ref q3m)))
  (q60:W.isFn K (.ref q3m)=true)
  (q1r:FK K "known_rules" "Hall.known_rules" ais q3m)
  (q61:W.findIn K (.ref CQ) "__init__" = some (some (.ref q2n)))
  (q62:W.isFn K (.ref q2n)=true)
  (q1s:FK K "__init__" "Queue.__init__" aix q2n)
  (q63:W.findIn K (.ref CQ) "has_more" = some (some (.ref q3n)))
  (q64:W.isFn K (.ref q3n)=true)
  (q1t:FK K "has_more" "Queue.has_more" aiw q3n)
  (q65:W.findIn K (.ref CQ) "take_number" = some (some (.ref q3o)))
  (q66:W.isFn K (.ref q3o)=true)
  (q1u:FK K "take_number" "Queue.take_number" aiy q3o)
  (q67:W.findIn K (.ref CQ) "take_row" = some (some (.ref q3p)))
  (q68:W.isFn K (.ref q3p)=true)
  (q1v:FK K "take_row" "Queue.take_row" aiz q3p)
  (q69:W.nsIn K mainGlobals "counted" = some (some (.ref qaj)))
  (q1w:FK K "counted" "counted" ajp qaj)
  (q6a:W.nsIn K mainGlobals "answer_rules" = some (some (.ref q2o)))
  (q1x:FK K "answer_rules" "answer_rules" ajh q2o)
  (q6b:W.nsIn K mainGlobals "answer_name" = some (some (.ref q2p)))
  (q1y:FK K "answer_name" "answer_name" ajg q2p)
  (q6c:W.nsIn K mainGlobals "answer_facts" = some (some (.ref q2q)))
  (q1z:FK K "answer_facts" "answer_facts" ajf q2q)
  (q6d:W.nsIn K mainGlobals "answer_cells" = some (some (.ref q2r)))
  (q20:FK K "answer_cells" "answer_cells" aje q2r)
  (q6e:W.nsIn K mainGlobals "answer_turns" = some (some (.ref q2s)))
  (q21:FK K "answer_turns" "answer_turns" ajk q2s)
  (q6f:W.nsIn K mainGlobals "answer_text" = some (some (.ref q2t)))
  (q22:FK K "answer_text" "answer_text" aji q2t)
  (q6g:W.nsIn K mainGlobals "answer_make" = some (some (.ref q2u)))
  (q23:FK K "answer_make" "answer_make" afr q2u)
  (q6h:W.nsIn K mainGlobals "answer_turn" = some (some (.ref q2v)))
  (q24:FK K "answer_turn" "answer_turn" ajj q2v)
  (q6i:W.nsIn K mainGlobals "answer_two" = some (some (.ref q2w)))
  (q25:FK K "answer_two" "answer_two" ajl q2w)
  (q6j:W.nsIn K mainGlobals "answer_back" = some (some (.ref q2x)))
  (q26:FK K "answer_back" "answer_back" ajd q2x)
  (q6k:W.nsIn K mainGlobals "answer" = some (some (.ref qak)))
  (q27:FK K "answer" "answer" ajc qak)
  (q6l:W.nsIn K mainGlobals "answers" = some (some (.ref qal)))
  (q6m:FK K "answers" "answers" abo qal)
  (qao:W.keepIn K (.ref RF)=true)
  (q6n:Xc.ni K RF "told")
  (q6o:W.keepIn K (.ref OR)=true)
  (q3a:Xc.ni K OR "told")
  (q6p:Xc.uy K OR)
  (q6q:W.keepIn K (.ref NR)=true)
  (q3b:Xc.ni K NR "told")
  (q6r:Xc.uy K NR)
  (q6s:W.keepIn K (.ref TF)=true)
  (q6:Xc.ni K TF "told")
  (q6t:Xc.uy K TF)
  (q6u:W.keepIn K (.ref NT)=true)
  (q3c:Xc.ni K NT "told")
  (q6v:Xc.uy K NT)
  (q6w:W.keepIn K (.ref CS)=true)
  (q6x:Cls K CS)
  (q6y:W.makesIn K CS=true)
  (q6z:W.findIn K (.ref CS) "name" = some none)
  (q70:W.findIn K (.ref CS) "wide" = some none)
  (q71:W.findIn K (.ref CS) "high" = some none)
  (q72:W.findIn K (.ref CS) "ground" = some none)
  (q73:W.findIn K (.ref CS) "start" = some none)
  (q74:W.findIn K (.ref CS) "marks" = some none)
  (q75:W.findIn K (.ref CS) "limit" = some none)
  (q76:W.findIn K (.ref CS) "length" = some none)
  (q77:W.keepIn K (.ref C)=true)
  (q78:Cls K C)
  (q79:W.makesIn K C=true)
  (q7a:W.findIn K (.ref C) "codes" = some none)
  (q7b:W.findIn K (.ref C) "place" = some none)
  (q7c:W.keepIn K (.ref CR)=true)
  (q7d:Cls K CR)
  (q7e:W.makesIn K CR=true)
  (q7f:W.findIn K (.ref CR) "text" = some none)
  (q7g:W.findIn K (.ref CR) "name" = some none)
  (q7h:W.findIn K (.ref CR) "facts" = some none)
  (q7i:W.findIn K (.ref CR) "cells" = some none)
  (q7j:W.findIn K (.ref CR) "ground" = some none)
  (q7k:W.keepIn K (.ref CH)=true)
  (q7l:Cls K CH)
  (q7m:W.makesIn K CH=true)
  (q7n:W.findIn K (.ref CH) "rules" = some none)
  (q7o:W.keepIn K (.ref CQ)=true)
  (q7p:Cls K CQ)
  (q7q:W.makesIn K CQ=true)
  (q7r:W.findIn K (.ref CQ) "calls" = some none)
  (q7s:W.findIn K (.ref CQ) "taken" = some none)
  (cm:Xc.CM K RF "__init__" q2e)
  (q7t:W.subIn K (.ref RF) (.type "BaseException")=some true)
  (q7u:W.typeIn K (.ref RF)=some (.type "type"))
  (q7v:W.subIn K (.ref TF) (.type "BaseException")=some true)
  (q7w:W.typeIn K (.ref TF)=some (.type "type"))
  (q7x:W.subIn K (.ref TF) (.ref TF)=some true)
  (q7y:W.subIn K (.ref OR) (.ref RF)=some true)
  (q7z:W.subIn K (.ref NR) (.ref RF)=some true)
  (q80:W.subIn K (.ref TF) (.ref RF)=some true)
  (q81:W.subIn K (.ref NT) (.ref RF)=some true)
  (q0:W.nsIn K mainGlobals "len" = some none)
  (q1:W.nsIn K mainGlobals "range" = some none)
  (q28:W.nsIn K mainGlobals "list" = some none)
  (q2:W.nsIn K mainGlobals "ord" = some none)
  (q7:W.nsIn K mainGlobals "reversed" = some none)
  (q29:W.nsIn K mainGlobals "sorted" = some none)
  (q3:W.nsIn K mainGlobals "zip" = some none)
  (q2a:W.nsIn K mainGlobals "min" = some none)
  (q2b:W.nsIn K mainGlobals "dict" = some none)
  (q2c:W.nsIn K mainGlobals "all" = some none)
  (q82:W.nsIn K mainGlobals "ROW" = some (some (.int 13 qat)))
  (q83:W.nsIn K mainGlobals "LEAST_SIZE" = some (some (.int 5 qau)))
  (q84:W.nsIn K mainGlobals "LONGEST_NAME" = some (some (.int 16 qav)))
  (q85:W.nsIn K mainGlobals "GREATEST_LIMIT" = some (some (.int 60000 qaw)))
  (q86:W.nsIn K mainGlobals "PASSED" = some (some (.int 4 qax)))
  (q87:W.nsIn K mainGlobals "SEAT" = some (some (.int 5 qay)))
  (q88:W.nsIn K mainGlobals "GOAL" = some (some (.int 7 qaz)))
  (q89:W.nsIn K mainGlobals "GOAL_EDGE" = some (some (.int 0 qb0)))
  (q8a:W.nsIn K mainGlobals "SEAT_PASSED" = some (some (.int 1 qb1)))
  (q8b:W.nsIn K mainGlobals "SEAT_QUIET" = some (some (.int 0 qb2)))
  (q8c:W.nsIn K mainGlobals "TURNS" = some (some (.int 8 qb3)))
  (q8d:W.nsIn K mainGlobals "QUARTERS" = some (some (.int 4 qb4)))
  (q8e:W.nsIn K mainGlobals "WIDE" = some (some (.int 0 qb5)))
  (q8f:W.nsIn K mainGlobals "HIGH" = some (some (.int 1 qb6)))
  (q8g:W.nsIn K mainGlobals "FIRST_WORD" = some (some (.int 2 qb7)))
  (q8h:W.nsIn K mainGlobals "LIMIT" = some (some (.int 11 qb8)))
  (q8i:W.nsIn K mainGlobals "KING" = some (some (.int 12 qb9)))
  (q8j:W.nsIn K mainGlobals "FACTS" = some (some (.int 13 qba)))
  (q8k:W.nsIn K mainGlobals "__name__" = some (some (.str "hallrules.desk" qbb)))
  (q8l:W.nsIn K mainGlobals "GROUND_SIGNS" = some (some (.str ".SX#" qbc)))
  (q8m:W.nsIn K mainGlobals "START_SIGNS" = some (some (.str ".hmK" qbd)))
  (q8n:W.nsIn K mainGlobals "LISTED_GROUND" = some (some (.str "SX#" qbe)))
  (q8o:W.nsIn K mainGlobals "LISTED_START" = some (some (.str "hm" qbf)))
  (nRQ:CR≠CQ)
  (nRH:CR≠CH)
  (q8p:W.nsIn K mainGlobals "SIZES" = some (some (.ref q2y)))
  (q8q:K.lookup q2y=some ⟨.type "tuple",qci,.seq #[.str "5" qbg,.str "6" qbh,.str "7" qbi,.str "8" qbj,.str "9" qbk,.str "10" qbl,.str "11" qbm,.str "12" qbn,.str "13" qbo] qd6,qdu⟩)
  (q8r:W.nsIn K mainGlobals "LINES" = some (some (.ref q3q)))
  (q8s:K.lookup q3q=some ⟨.type "tuple",qcj,.seq #[.ref q9,.ref qa,.ref qb,.ref qc,.ref qd,.ref qe] qd7,qdv⟩)
  (q8t:K.lookup q9=some ⟨.type "tuple",qck,.seq #[.str "first" qbp,.ref q3r] qd8,qdw⟩)
  (q8u:K.lookup q3r=some ⟨.type "tuple",qcl,.seq #[.ref q2z] qd9,qdx⟩)
  (q8v:K.lookup q2z=some ⟨.type "tuple",qcm,.seq #[.str "hunters" qbq,.str "king" qbr] qda,qdy⟩)
  (q8w:K.lookup qa=some ⟨.type "tuple",qcn,.seq #[.str "king" qbs,.ref q3s] qdb,qdz⟩)
  (q8x:K.lookup q3s=some ⟨.type "tuple",qco,.seq #[.ref q30,.ref q31,.ref q32] qdc,qe0⟩)
  (q8y:K.lookup q30=some ⟨.type "tuple",qcp,.seq #[.str "steps" qbt,.str "slides" qbu] qdd,qe1⟩)
  (q8z:K.lookup q31=some ⟨.type "tuple",qcq,.seq #[.str "bare" qbv,.str "armed" qbw] qde,qe2⟩)
  (q90:K.lookup q32=some ⟨.type "tuple",qcr,.seq #[.str "two" qbx,.str "four" qby] qdf,qe3⟩)
  (q91:K.lookup qb=some ⟨.type "tuple",qcs,.seq #[.str "seat" qbz,.ref q3t] qdg,qe4⟩)
  (q92:K.lookup q3t=some ⟨.type "tuple",qct,.seq #[.ref q33,.ref q34] qdh,qe5⟩)
  (q93:K.lookup q33=some ⟨.type "tuple",qcu,.seq #[.str "barred" qc0,.str "passed" qc1] qdi,qe6⟩)
  (q94:K.lookup q34=some ⟨.type "tuple",qcv,.seq #[.str "quiet" qc2,.str "hunters" qc3,.str "men" qc4,.str "all" qc5] qdj,qe7⟩)
  (q95:K.lookup qc=some ⟨.type "tuple",qcw,.seq #[.str "exits" qc6,.ref q3u] qdk,qe8⟩)
  (q96:K.lookup q3u=some ⟨.type "tuple",qcx,.seq #[.ref q35] qdl,qe9⟩)
  (q97:K.lookup q35=some ⟨.type "tuple",qcy,.seq #[.str "quiet" qc7,.str "hunters" qc8,.str "men" qc9,.str "all" qca] qdm,qea⟩)
  (q98:K.lookup qd=some ⟨.type "tuple",qcz,.seq #[.str "goal" qcb,.ref q3v] qdn,qeb⟩)
  (q99:K.lookup q3v=some ⟨.type "tuple",qd0,.seq #[.ref q36] qdo,qec⟩)
  (q9a:K.lookup q36=some ⟨.type "tuple",qd1,.seq #[.str "edge" qcc,.str "exits" qcd] qdp,qed⟩)
  (q9b:K.lookup qe=some ⟨.type "tuple",qd2,.seq #[.str "thrice" qce,.ref q3w] qdq,qee⟩)
  (q9c:K.lookup q3w=some ⟨.type "tuple",qd3,.seq #[.ref q37] qdr,qef⟩)
  (q9d:K.lookup q37=some ⟨.type "tuple",qd4,.seq #[.str "drawn" qcf,.str "hunters" qcg,.str "king" qch] qds,qeg⟩)
  (q9e:W.nsIn K mainGlobals "CALLS" = some (some (.ref q3x)))
  (q9f:K.lookup q3x=some ⟨.type "tuple",qd5,.seq #[.ref q2o,.ref q2p,.ref q2q,.ref q2r,.ref q2s,.ref q2t,.ref q2u,.ref q2v,.ref q2w,.ref q2x] qdt,qeh⟩)
  : ∃fd:FuncData,(∀(s:Shared) (us:List Value),us.length=(["calls"]:List Str).length->BindsTo s fd ⟨us,[]⟩ ((["calls"]:List Str).zip us))/\∀base:Heap,K.In base->base.Ns mainGlobals mg->jm P w K mg base CX0 12 fa fd ["calls"] (akc K):=by
 have qei:o9 K (.ref q2y) [ascii "5",ascii "6",ascii "7",ascii "8",ascii "9",ascii "10",ascii "11",ascii "12",ascii "13"]:=za (zs:=["5", "6", "7", "8", "9", "10", "11", "12", "13"]) q8q rfl (.cons ⟨_,rfl⟩ (.cons ⟨_,rfl⟩ (.cons ⟨_,rfl⟩ (.cons ⟨_,rfl⟩ (.cons ⟨_,rfl⟩ (.cons ⟨_,rfl⟩ (.cons ⟨_,rfl⟩ (.cons ⟨_,rfl⟩ (.cons ⟨_,rfl⟩ (.nil)))))))))) (by decide +kernel)
 have qej:o9 K (.ref q2z) [ascii "hunters",ascii "king"]:=za (zs:=["hunters", "king"]) q8v rfl (.cons ⟨_,rfl⟩ (.cons ⟨_,rfl⟩ (.nil))) (by decide +kernel)
 have qek:aa6 K (.ref q9) (ascii "first",[[ascii "hunters",ascii "king"]]):=⟨q9,q3r, "first",[.ref q2z],rfl,ud q8t rfl (.cons ⟨_,rfl⟩ (.cons rfl .nil)),(by decide +kernel),ud q8u rfl (.cons rfl (.nil)),.cons qej (.nil)⟩
 have qel:o9 K (.ref q30) [ascii "steps",ascii "slides"]:=za (zs:=["steps", "slides"]) q8y rfl (.cons ⟨_,rfl⟩ (.cons ⟨_,rfl⟩ (.nil))) (by decide +kernel)
 have qem:o9 K (.ref q31) [ascii "bare",ascii "armed"]:=za (zs:=["bare", "armed"]) q8z rfl (.cons ⟨_,rfl⟩ (.cons ⟨_,rfl⟩ (.nil))) (by decide +kernel)
 have qen:o9 K (.ref q32) [ascii "two",ascii "four"]:=za (zs:=["two", "four"]) q90 rfl (.cons ⟨_,rfl⟩ (.cons ⟨_,rfl⟩ (.nil))) (by decide +kernel)
 have qeo:aa6 K (.ref qa) (ascii "king",[[ascii "steps",ascii "slides"],[ascii "bare",ascii "armed"],[ascii "two",ascii "four"]]):=⟨qa,q3s, "king",[.ref q30,.ref q31,.ref q32],rfl,ud q8w rfl (.cons ⟨_,rfl⟩ (.cons rfl .nil)),(by decide +kernel),ud q8x rfl (.cons rfl (.cons rfl (.cons rfl (.nil)))),.cons qel (.cons qem (.cons qen (.nil)))⟩
 have qep:o9 K (.ref q33) [ascii "barred",ascii "passed"]:=za (zs:=["barred", "passed"]) q93 rfl (.cons ⟨_,rfl⟩ (.cons ⟨_,rfl⟩ (.nil))) (by decide +kernel)
 have qeq:o9 K (.ref q34) [ascii "quiet",ascii "hunters",ascii "men",ascii "all"]:=za (zs:=["quiet", "hunters", "men", "all"]) q94 rfl (.cons ⟨_,rfl⟩ (.cons ⟨_,rfl⟩ (.cons ⟨_,rfl⟩ (.cons ⟨_,rfl⟩ (.nil))))) (by decide +kernel)
 have qer:aa6 K (.ref qb) (ascii "seat",[[ascii "barred",ascii "passed"],[ascii "quiet",ascii "hunters",ascii "men",ascii "all"]]):=⟨qb,q3t, "seat",[.ref q33,.ref q34],rfl,ud q91 rfl (.cons ⟨_,rfl⟩ (.cons rfl .nil)),(by decide +kernel),ud q92 rfl (.cons rfl (.cons rfl (.nil))),.cons qep (.cons qeq (.nil))⟩
 have qes:o9 K (.ref q35) [ascii "quiet",ascii "hunters",ascii "men",ascii "all"]:=za (zs:=["quiet", "hunters", "men", "all"]) q97 rfl (.cons ⟨_,rfl⟩ (.cons ⟨_,rfl⟩ (.cons ⟨_,rfl⟩ (.cons ⟨_,rfl⟩ (.nil))))) (by decide +kernel)
 have qet:aa6 K (.ref qc) (ascii "exits",[[ascii "quiet",ascii "hunters",ascii "men",ascii "all"]]):=⟨qc,q3u, "exits",[.ref q35],rfl,ud q95 rfl (.cons ⟨_,rfl⟩ (.cons rfl .nil)),(by decide +kernel),ud q96 rfl (.cons rfl (.nil)),.cons qes (.nil)⟩
 have qeu:o9 K (.ref q36) [ascii "edge",ascii "exits"]:=za (zs:=["edge", "exits"]) q9a rfl (.cons ⟨_,rfl⟩ (.cons ⟨_,rfl⟩ (.nil))) (by decide +kernel)
 have qev:aa6 K (.ref qd) (ascii "goal",[[ascii "edge",ascii "exits"]]):=⟨qd,q3v, "goal",[.ref q36],rfl,ud q98 rfl (.cons ⟨_,rfl⟩ (.cons rfl .nil)),(by decide +kernel),ud q99 rfl (.cons rfl (.nil)),.cons qeu (.nil)⟩
 have qew:o9 K (.ref q37) [ascii "drawn",ascii "hunters",ascii "king"]:=za (zs:=["drawn", "hunters", "king"]) q9d rfl (.cons ⟨_,rfl⟩ (.cons ⟨_,rfl⟩ (.cons ⟨_,rfl⟩ (.nil)))) (by decide +kernel)
 have qex:aa6 K (.ref qe) (ascii "thrice",[[ascii "drawn",ascii "hunters",ascii "king"]]):=⟨qe,q3w, "thrice",[.ref q37],rfl,ud q9b rfl (.cons ⟨_,rfl⟩ (.cons rfl .nil)),(by decide +kernel),ud q9c rfl (.cons rfl (.nil)),.cons qew (.nil)⟩
 have hL:aee K mg Hm.LINES:=⟨q3q,[.ref q9,.ref qa,.ref qb,.ref qc,.ref qd,.ref qe],W.mg_of X G q8r,ud q8s rfl (.cons rfl (.cons rfl (.cons rfl (.cons rfl (.cons rfl (.cons rfl (.nil))))))),.cons qek (.cons qeo (.cons qer (.cons qet (.cons qev (.cons qex (.nil))))))⟩
 have hZ:agj K mg "SIZES" Hm.SIZES:=⟨q2y,W.mg_of X G q8p,(by decide +kernel:[ascii "5",ascii "6",ascii "7",ascii "8",ascii "9",ascii "10",ascii "11",ascii "12",ascii "13"]=Hm.SIZES)▸qei⟩
 have q2d:fc mg "ROW" 13:=⟨_,W.mg_of X G q82,⟨_,rfl⟩⟩
 have qap:fc mg "LEAST_SIZE" 5:=⟨_,W.mg_of X G q83,⟨_,rfl⟩⟩
 have qey:fc mg "LONGEST_NAME" 16:=⟨_,W.mg_of X G q84,⟨_,rfl⟩⟩
 have qez:fc mg "GREATEST_LIMIT" 60000:=⟨_,W.mg_of X G q85,⟨_,rfl⟩⟩
 have qf0:fc mg "PASSED" 4:=⟨_,W.mg_of X G q86,⟨_,rfl⟩⟩
 have qf1:fc mg "SEAT" 5:=⟨_,W.mg_of X G q87,⟨_,rfl⟩⟩
 have qf2:fc mg "GOAL" 7:=⟨_,W.mg_of X G q88,⟨_,rfl⟩⟩
 have qf3:fc mg "GOAL_EDGE" 0:=⟨_,W.mg_of X G q89,⟨_,rfl⟩⟩
 have qf4:fc mg "SEAT_PASSED" 1:=⟨_,W.mg_of X G q8a,⟨_,rfl⟩⟩
 have qf5:fc mg "SEAT_QUIET" 0:=⟨_,W.mg_of X G q8b,⟨_,rfl⟩⟩
 have q3d:fc mg "TURNS" 8:=⟨_,W.mg_of X G q8c,⟨_,rfl⟩⟩
 have q9g:fc mg "QUARTERS" 4:=⟨_,W.mg_of X G q8d,⟨_,rfl⟩⟩
 have q9h:fc mg "WIDE" 0:=⟨_,W.mg_of X G q8e,⟨_,rfl⟩⟩
 have q9i:fc mg "HIGH" 1:=⟨_,W.mg_of X G q8f,⟨_,rfl⟩⟩
 have qaq:fc mg "FIRST_WORD" 2:=⟨_,W.mg_of X G q8g,⟨_,rfl⟩⟩
 have qar:fc mg "LIMIT" 11:=⟨_,W.mg_of X G q8h,⟨_,rfl⟩⟩
 have qf6:fc mg "KING" 12:=⟨_,W.mg_of X G q8i,⟨_,rfl⟩⟩
 have qf7:fc mg "FACTS" 13:=⟨_,W.mg_of X G q8j,⟨_,rfl⟩⟩
 have qgp:ux mg "__name__" [104,97,108,108,114,117,108,101,115,46,100,101,115,107]:=⟨_,_,W.mg_of X G q8k,⟨_,rfl⟩,by decide +kernel⟩
 have qf8:ux mg "GROUND_SIGNS" Hm.GS:=⟨_,_,W.mg_of X G q8l,⟨_,rfl⟩,by decide +kernel⟩
 have qf9:ux mg "START_SIGNS" Hm.SS:=⟨_,_,W.mg_of X G q8m,⟨_,rfl⟩,by decide +kernel⟩
 have q9j:ux mg "LISTED_GROUND" [83,88,35]:=⟨_,_,W.mg_of X G q8n,⟨_,rfl⟩,by decide +kernel⟩
 have q9k:ux mg "LISTED_START" [104,109]:=⟨_,_,W.mg_of X G q8o,⟨_,rfl⟩,by decide +kernel⟩
 have q0:=W.mg_none_of X G q0
 have q1:=W.mg_none_of X G q1
 have q28:=W.mg_none_of X G q28
 have q2:=W.mg_none_of X G q2
 have q7:=W.mg_none_of X G q7
 have q29:=W.mg_none_of X G q29
 have q3:=W.mg_none_of X G q3
 have q2a:=W.mg_none_of X G q2a
 have q2b:=W.mg_none_of X G q2b
 have q2c:=W.mg_none_of X G q2c
 have q8:=W.mg_of X G q3y
 have qfa:=W.mg_of X G q3z
 have qfb:=W.mg_of X G q40
 have q9l:=W.mg_of X G q41
 have qfc:=W.mg_of X G q42
 have qfd:=W.mg_of X G q43
 have qfe:=W.mg_of X G q44
 have qff:=W.mg_of X G q45
 have qfg:=W.mg_of X G q46
 have qfh:=W.mg_of X G q47
 have q4:=dg (ps:=["self", "told"]) q4 λ_ _ _ _ _ _ us hl=>match us,hl with | [_,_],_=>rfl
 have qf:=dg (ps:=["self"]) qf λ_ _ _ _ _ _ us hl=>match us,hl with | [_],_=>rfl
 have qg:=dg (ps:=["self"]) qg λ_ _ _ _ _ _ us hl=>match us,hl with | [_],_=>rfl
 have q5:=dg (ps:=["self", "kind", "place"]) q5 λ_ _ _ _ _ _ us hl=>match us,hl with | [_,_,_],_=>rfl
 have qh:=dg (ps:=["self"]) qh λ_ _ _ _ _ _ us hl=>match us,hl with | [_],_=>rfl
 have qi:=dg (ps:=["self", "name", "wide", "high"]) qi λ_ _ _ _ _ _ us hl=>match us,hl with | [_,_,_,_],_=>rfl
 have qj:=dg (ps:=["self", "codes"]) qj λ_ _ _ _ _ _ us hl=>match us,hl with | [_,_],_=>rfl
 have qk:=dg (ps:=["self"]) qk λ_ _ _ _ _ _ us hl=>match us,hl with | [_],_=>rfl
 have ql:=dg (ps:=["self", "words"]) ql λ_ _ _ _ _ _ us hl=>match us,hl with | [_,_],_=>rfl
 have qm:=dg (ps:=["self", "word"]) qm λ_ _ _ _ _ _ us hl=>match us,hl with | [_,_],_=>rfl
 have qn:=dg (ps:=["self"]) qn λ_ _ _ _ _ _ us hl=>match us,hl with | [_],_=>rfl
 have qo:=dg (ps:=["self"]) qo λ_ _ _ _ _ _ us hl=>match us,hl with | [_],_=>rfl
 have qp:=dg (ps:=["self", "wide", "high", "signs"]) qp λ_ _ _ _ _ _ us hl=>match us,hl with | [_,_,_,_],_=>rfl
 have qq:=dg (ps:=["self"]) qq λ_ _ _ _ _ _ us hl=>match us,hl with | [_],_=>rfl
 have qr:=dg (ps:=["self"]) qr λ_ _ _ _ _ _ us hl=>match us,hl with | [_],_=>rfl
 have qfi:=W.mg_of X G q4y
 have qs:=dg (ps:=["number"]) qs λ_ _ _ _ _ _ us hl=>match us,hl with | [_],_=>rfl
 have qfj:=W.mg_of X G q4z
 have qt:=dg (ps:=["byte"]) qt λ_ _ _ _ _ _ us hl=>match us,hl with | [_],_=>rfl
 have qfk:=W.mg_of X G q50
 have qu:=dg (ps:=["byte"]) qu λ_ _ _ _ _ _ us hl=>match us,hl with | [_],_=>rfl
 have qfl:=W.mg_of X G q51
 have qv:=dg (ps:=["reader"]) qv λ_ _ _ _ _ _ us hl=>match us,hl with | [_],_=>rfl
 have qfm:=W.mg_of X G q52
 have qw:=dg (ps:=["codes"]) qw λ_ _ _ _ _ _ us hl=>match us,hl with | [_],_=>rfl
 have qfn:=W.mg_of X G q53
 have qx:=dg (ps:=["board", "sign"]) qx λ_ _ _ _ _ _ us hl=>match us,hl with | [_,_],_=>rfl
 have qfo:=W.mg_of X G q54
 have qy:=dg (ps:=["board", "sign"]) qy λ_ _ _ _ _ _ us hl=>match us,hl with | [_,_],_=>rfl
 have qfp:=W.mg_of X G q55
 have qz:=dg (ps:=["board", "sign", "kind"]) qz λ_ _ _ _ _ _ us hl=>match us,hl with | [_,_,_],_=>rfl
 have qfq:=W.mg_of X G q56
 have q10:=dg (ps:=["piece", "kind"]) q10 λ_ _ _ _ _ _ us hl=>match us,hl with | [_,_],_=>rfl
 have qfr:=W.mg_of X G q57
 have q11:=dg (ps:=["sheet"]) q11 λ_ _ _ _ _ _ us hl=>match us,hl with | [_],_=>rfl
 have qfs:=W.mg_of X G q58
 have q12:=dg (ps:=["sheet", "cell"]) q12 λ_ _ _ _ _ _ us hl=>match us,hl with | [_,_],_=>rfl
 have qft:=W.mg_of X G q59
 have q13:=dg (ps:=["sheet"]) q13 λ_ _ _ _ _ _ us hl=>match us,hl with | [_],_=>rfl
 have qfu:=W.mg_of X G q5a
 have q14:=dg (ps:=["sheet"]) q14 λ_ _ _ _ _ _ us hl=>match us,hl with | [_],_=>rfl
 have qfv:=W.mg_of X G q5b
 have q15:=dg (ps:=["sheet"]) q15 λ_ _ _ _ _ _ us hl=>match us,hl with | [_],_=>rfl
 have qfw:=W.mg_of X G q5c
 have q16:=dg (ps:=["sheet"]) q16 λ_ _ _ _ _ _ us hl=>match us,hl with | [_],_=>rfl
 have qfx:=W.mg_of X G q5d
 have q17:=dg (ps:=["sheet"]) q17 λ_ _ _ _ _ _ us hl=>match us,hl with | [_],_=>rfl
 have q18:=dg (ps:=["self", "text", "name", "facts", "cells", "ground"]) q18 λ_ _ _ _ _ _ us hl=>match us,hl with | [_,_,_,_,_,_],_=>rfl
 have qfy:=W.mg_of X G q5g
 have q19:=dg (ps:=["sheet"]) q19 λ_ _ _ _ _ _ us hl=>match us,hl with | [_],_=>rfl
 have qfz:=W.mg_of X G q5h
 have q1a:=dg (ps:=["sheet"]) q1a λ_ _ _ _ _ _ us hl=>match us,hl with | [_],_=>rfl
 have qg0:=W.mg_of X G q5i
 have q1b:=dg (ps:=["codes"]) q1b λ_ _ _ _ _ _ us hl=>match us,hl with | [_],_=>rfl
 have qg1:=W.mg_of X G q5j
 have q1c:=dg (ps:=["wide", "high", "turn", "cell"]) q1c λ_ _ _ _ _ _ us hl=>match us,hl with | [_,_,_,_],_=>rfl
 have qg2:=W.mg_of X G q5k
 have q1d:=dg (ps:=["turn", "later"]) q1d λ_ _ _ _ _ _ us hl=>match us,hl with | [_,_],_=>rfl
 have qg3:=W.mg_of X G q5l
 have q1e:=dg (ps:=["turn"]) q1e λ_ _ _ _ _ _ us hl=>match us,hl with | [_],_=>rfl
 have qg4:=W.mg_of X G q5m
 have q1f:=dg (ps:=["wide", "high", "cell"]) q1f λ_ _ _ _ _ _ us hl=>match us,hl with | [_,_,_],_=>rfl
 have qg5:=W.mg_of X G q5n
 have q1g:=dg (ps:=["wide", "high", "ground", "turn"]) q1g λ_ _ _ _ _ _ us hl=>match us,hl with | [_,_,_,_],_=>rfl
 have qg6:=W.mg_of X G q5o
 have q1h:=dg (ps:=["wide", "high", "ground"]) q1h λ_ _ _ _ _ _ us hl=>match us,hl with | [_,_,_],_=>rfl
 have qg7:=W.mg_of X G q5p
 have q1i:=dg (ps:=[]) q1i λ_ _ _ _ _ _ us hl=>match us,hl with | [],_=>rfl
 have qg8:=W.mg_of X G q5q
 have q1j:=dg (ps:=["facts"]) q1j λ_ _ _ _ _ _ us hl=>match us,hl with | [_],_=>rfl
 have qg9:=W.mg_of X G q5r
 have q1k:=dg (ps:=["lists", "signs"]) q1k λ_ _ _ _ _ _ us hl=>match us,hl with | [_,_],_=>rfl
 have qga:=W.mg_of X G q5s
 have q1l:=dg (ps:=["facts", "board"]) q1l λ_ _ _ _ _ _ us hl=>match us,hl with | [_,_],_=>rfl
 have qgb:=W.mg_of X G q5t
 have q1m:=dg (ps:=["facts"]) q1m λ_ _ _ _ _ _ us hl=>match us,hl with | [_],_=>rfl
 have qgc:=W.mg_of X G q5u
 have q1n:=dg (ps:=["text"]) q1n λ_ _ _ _ _ _ us hl=>match us,hl with | [_],_=>rfl
 have qgd:=W.mg_of X G q5v
 have q1o:=dg (ps:=["name", "facts", "cells"]) q1o λ_ _ _ _ _ _ us hl=>match us,hl with | [_,_,_],_=>rfl
 have qge:=W.mg_of X G q5w
 have q1p:=dg (ps:=["name", "facts", "cells"]) q1p λ_ _ _ _ _ _ us hl=>match us,hl with | [_,_,_],_=>rfl
 have q1q:=dg (ps:=["self"]) q1q λ_ _ _ _ _ _ us hl=>match us,hl with | [_],_=>rfl
 have q1r:=dg (ps:=["self"]) q1r λ_ _ _ _ _ _ us hl=>match us,hl with | [_],_=>rfl
 have q1s:=dg (ps:=["self", "calls"]) q1s λ_ _ _ _ _ _ us hl=>match us,hl with | [_,_],_=>rfl
 have q1t:=dg (ps:=["self"]) q1t λ_ _ _ _ _ _ us hl=>match us,hl with | [_],_=>rfl
 have q1u:=dg (ps:=["self"]) q1u λ_ _ _ _ _ _ us hl=>match us,hl with | [_],_=>rfl
 have q1v:=dg (ps:=["self"]) q1v λ_ _ _ _ _ _ us hl=>match us,hl with | [_],_=>rfl
 have qgf:=W.mg_of X G q69
 have q1w:=dg (ps:=["row"]) q1w λ_ _ _ _ _ _ us hl=>match us,hl with | [_],_=>rfl
 have qgq:=W.mg_of X G q6a
 have q1x:=dg (ps:=["hall", "queue"]) q1x λ_ _ _ _ _ _ us hl=>match us,hl with | [_,_],_=>rfl
 have qgr:=W.mg_of X G q6b
 have q1y:=dg (ps:=["hall", "queue"]) q1y λ_ _ _ _ _ _ us hl=>match us,hl with | [_,_],_=>rfl
 have qgs:=W.mg_of X G q6c
 have q1z:=dg (ps:=["hall", "queue"]) q1z λ_ _ _ _ _ _ us hl=>match us,hl with | [_,_],_=>rfl
 have qgt:=W.mg_of X G q6d
 have q20:=dg (ps:=["hall", "queue"]) q20 λ_ _ _ _ _ _ us hl=>match us,hl with | [_,_],_=>rfl
 have qgu:=W.mg_of X G q6e
 have q21:=dg (ps:=["hall", "queue"]) q21 λ_ _ _ _ _ _ us hl=>match us,hl with | [_,_],_=>rfl
 have qgv:=W.mg_of X G q6f
 have q22:=dg (ps:=["hall", "queue"]) q22 λ_ _ _ _ _ _ us hl=>match us,hl with | [_,_],_=>rfl
 have qgw:=W.mg_of X G q6g
 have q23:=dg (ps:=["hall", "queue"]) q23 λ_ _ _ _ _ _ us hl=>match us,hl with | [_,_],_=>rfl
 have qgx:=W.mg_of X G q6h
 have q24:=dg (ps:=["hall", "queue"]) q24 λ_ _ _ _ _ _ us hl=>match us,hl with | [_,_],_=>rfl
 have qgy:=W.mg_of X G q6i
 have q25:=dg (ps:=["hall", "queue"]) q25 λ_ _ _ _ _ _ us hl=>match us,hl with | [_,_],_=>rfl
 have qgz:=W.mg_of X G q6j
 have q26:=dg (ps:=["hall", "queue"]) q26 λ_ _ _ _ _ _ us hl=>match us,hl with | [_,_],_=>rfl
 have qgg:=W.mg_of X G q6k
 have q27:=dg (ps:=["hall", "queue"]) q27 λ_ _ _ _ _ _ us hl=>match us,hl with | [_,_],_=>rfl
 have qgh:Xc.XMk K OR q2f:=⟨q6p,q48,q49,q6o⟩
 have qgi:Xc.XMk K NR q2g:=⟨q6r,q4a,q4b,q6q⟩
 have qas:Xc.XMk K TF q2h:=⟨q6t,q4c,q4d,q6s⟩
 have qgj:Xc.XMk K NT q2i:=⟨q6v,q4e,q4f,q6u⟩
 have qgk:Mk K CS q2j:=⟨q6y,q4g,q4h,q6w⟩
 have qgl:Mk K C q2k:=⟨q79,q4i,q4j,q77⟩
 have qgm:Mk K CR q2l:=⟨q7e,q5e,q5f,q7c⟩
 have qgn:Mk K CH q2m:=⟨q7m,q5x,q5y,q7k⟩
 have qgo:Mk K CQ q2n:=⟨q7q,q61,q62,q7o⟩
 have TC:RdT K mg C:=⟨q78,q7a,q7b,q0,q1,q28,q2⟩
 have TS:ShT K CS:=⟨q6x,q6z,q70,q71,q72,q73,q74,q75,q76⟩
 have TR:RlT K CR:=⟨q7d,q7f,q7g,q7h,q7i,q7j⟩
 have TH:HlT K CH:=⟨q7l,q7n⟩
 have TQ:QuT K CQ:=⟨q7p,q7r,q7s⟩
 have hexR:∀{c:Addr},W.subIn K (.ref c) (.ref RF)=some true->W.exmOne K (.ref c) (.ref RF)=some true:=λh=>let ⟨_,e,_⟩:=q6n.cls;al7 q7t e q7u h
 have hexT:W.exmOne K (.ref TF) (.ref TF)=some true:=let ⟨_,e,_⟩:=q6.cls;al7 q7v e q7w q7x
 have rO:isRef K RF OR:=⟨hexR q7y,q3a⟩
 have rN:isRef K RF NR:=⟨hexR q7z,q3b⟩
 have rT:isRef K RF TF:=⟨hexR q80,q6⟩
 have rX:isRef K RF NT:=⟨hexR q81,q3c⟩
 obtain⟨oc,od,kV,doc,pm,an,cdv,ct,osl,lA,cA,kA⟩:=q6m
 have eA:=hfa.symm.trans (W.mg_of X G q6l)
 cases eA
 refine⟨W.fnOf "answers" "answers" (aag abo) (uh abo) (bj abo) .none kV doc pm an cdv ct,λs us hu=>match us,hu with | [_],_=>.of_eq rfl,λbase _ _=>?_⟩
 have gd:∀{CX k x f ps sp},mg x=some (.ref f)->Def P w K mg base CX k f ps sp->GD P w K mg base CX k x ps sp:=λg D=>⟨_,g,D⟩
 have md:∀{C CX k m f ps sp},W.findIn K (.ref C) m=some (some (.ref f))->W.isFn K (.ref f)=true->Def P w K mg base CX k f ps sp->MD P w K mg base C CX k m ps sp:=λa i D=>⟨_,⟨a,i,D.kp⟩,D⟩
 have DR:Def P w K mg base CX0 1 _ _ _:=axo q4
 have DRU:yd P w K mg base CX0 1 _ _ _:=axp q4
 have TD:TFd P w K mg base TF:=⟨⟨_,qas,ant q5 DR q8 cm⟩,q6,q9l⟩
 have ND:NTd P w K mg base NT:=⟨⟨_,qgj,axk qh DRU q8 cm⟩,q3c,qfc⟩
 have OD:Rfd P w K mg base "OutOfRange" OR [.int (-1)]:=⟨⟨_,qgh,axl qf DR q8 cm⟩,q3a,qfa⟩
 have NRd:Rfd P w K mg base "NoRules" NR [.int (-3)]:=⟨⟨_,qgi,axj qg DR q8 cm⟩,q3b,qfb⟩
 have DPk:Def P w K mg base CX0 1 _ _ _:=ayt qk TC
 have mPk:=md q38 q39 DPk
 have mCh:=md q4k q4l (ay2 ql TC ⟨q38,q39,DPk.kp⟩ DPk (ant q5 DR q8 cm) qas q6 q9l)
 have mWd:=md q4m q4n (ay9 qm TC mCh)
 have gLt:=gd qfj (ayk qt q2)
 have gDg:=gd qfk (ayj qu q2)
 have mEn:=md q4w q4x (ay3 qr TC TD)
 have mNm:=md q4o q4p (ay6 qn TC mPk TD gLt gDg qey)
 have mLm:=md q4q q4r (ay4 qo TC mPk TD gDg qez)
 have mBd:=md q4s q4t (ay1 qp TC q7 mCh mWd q2d)
 have mLn:=md q4u q4v (ay5 qq TC mCh mWd hL Hm.ahn (by decide))
 have gHd:=gd qfl (ayv qv TC mWd mNm mCh hZ qap ⟨_,qgk,axr qi TS⟩ qfd)
 have gSh:=gd qfm (ayw qw TC TS ⟨_,qgl,axn qj TC⟩ qfe gHd mWd mBd mLn mLm mEn qf8 qf9)
 have gPl:=gd qfn (ayu qx)
 have gCl:=gd qfo (ax8 qy q29)
 have gMo:=gd qfp (ayr qz gPl)
 have gSt:=gd qfq (ay0 q10)
 have gWp:=gd qfr (azh q11 TS q3 gSt)
 have gEd:=gd qfs (ays q12 TS q2d)
 have gFk:=gd qft (ayd q13 TS gEd)
 have gWg:=gd qfu (azg q14 TS qf2 qf3 gFk gPl)
 have gSa:=gd qfv (ayy q15 TS qf0 qf4 qf1 qf5)
 have gLk:=gd qfw (ayn q16 TS gSa gPl)
 have gCk:=gd qfx (ax9 q17 TS q2a gMo gWp gWg gLk TD)
 have gFa:=gd qfy (ayc q19 TS gCl)
 have gLs:=gd qfz (ayp q1a TS gCl q9j q9k)
 have gRo:=gd qg0 (ayx q1b TS q2b gSh gCk gFa gLs ⟨_,qgm,axq q18 TR⟩ qff)
 have gTu:=gd qg1 (azb q1c q2d q9g q1)
 have gCo:=gd qg2 (aya q1d q9g)
 have gUn:=gd qg3 (azc q1e q9g)
 have gHs:=gd qg4 (ayg q1f q2d)
 have gSz:=gd qfi (ayl qs qap hZ q0)
 have gFi:=gd qg5 (aye q1g gTu)
 have gFt:=gd qg6 (ayf q1h gFi q3d q1)
 have gAc:=gd qg7 (axs q1i hL)
 have gBy:=gd qgc (ax6 q1n q2)
 have gCan:=gd qg8 (ax7 q1j gSz gAc q0 q3 q2c qf7 q9h q9i qaq qar)
 have gSi:=gd qg9 (ayz q1k q3)
 have gBt:=gd qga (ax5 q1l q7 q1 q9h q9i q2d)
 have gLx:=gd qgb (ayo q1m hL qaq)
 have gWr:=gd qgd (azf q1o gSi gBt gLx gBy q9j q9k q0 q9h q9i qar qf6)
 have gMr:=gd qge (ayq q1p TR gCan gWr gRo ND q9l hexT)
 have DKn:Def P w K mg base (Xc.XC P w) 4 _ _ (aa0 CH CR NR):=aym q1r TH NRd
 have mK:=md q5z q60 DKn
 have mHm:=md q63 q64 (ayh q1t TQ q0)
 have mTn:=md q65 q66 (ay7 q1u TQ)
 have mTr:=md q67 q68 (ay8 q1v TQ mTn)
 have gCt:=gd qgf (ayb q1w q0)
 have hC:akq P w K mg base CH CR CQ RF:=by
  refine⟨q3x,[.ref q2o,.ref q2p,.ref q2q,.ref q2r,.ref q2s,.ref q2t,.ref q2u,.ref q2v,.ref q2w,.ref q2x],W.mg_of X G q9e,
   ud q9f rfl (.cons rfl (.cons rfl (.cons rfl (.cons rfl (.cons rfl (.cons rfl (.cons rfl (.cons rfl (.cons rfl (.cons rfl .nil)))))))))),rfl,λn hn=>?_⟩
  match n,hn with
  | 0,_=>exact⟨_,rfl,(axz q1x TH TQ nRQ nRH mTr gRo rT).up (by decide)⟩
  | 1,_=>exact⟨_,rfl,(axy q1y TH TR mK gCt rN).up (by decide)⟩
  | 2,_=>exact⟨_,rfl,(axw q1z TH TR mK gCt rN).up (by decide)⟩
  | 3,_=>exact⟨_,rfl,(axv q20 TH TR TQ nRQ mTn mK gCt OD rO rN q0).up (by decide)⟩
  | 4,_=>exact⟨_,rfl,(ax2 q21 TH TR mK gCt gFt rN).up (by decide)⟩
  | 5,_=>exact⟨_,rfl,(ax0 q22 TH TR mK gCt rN).up (by decide)⟩
  | 6,_=>exact⟨_,rfl,axx q23 TR TQ nRQ mTr gMr gCt q9j q9k rX⟩
  | 7,_=>exact⟨_,rfl,(ax1 q24 TQ nRQ mTn gSz gHs gTu OD rO q3d).up (by decide)⟩
  | 8,_=>exact⟨_,rfl,(ax3 q25 TQ nRQ mTn gCo OD rO q3d).up (by decide)⟩
  | 9,_=>exact⟨_,rfl,(axu q26 TQ nRQ mTn gUn OD rO q3d).up (by decide)⟩
  | n+10,h=>exact absurd h (by omega)
 have gAn:=gd qgg (axt q27 TQ nRQ mTn hC q0 q8)
 exact ax4 (ag9 (st:=abo) lA cA kA) TQ ⟨_,qgn,axi q1q TH⟩ qfg ⟨_,qgo,axm q1s TQ⟩ qfh mHm gAn q0
end Hr
open PySem PySem.W PyProof.Rows
local macro_rules
  | `(lay_quick $i $j) => do
    let mut a := #[j.getId]
    for b in ["o_", "sts_", "view_", "heap_"] do
      for k in [1:670] do
        if b == "o_" || [1, 11, 34, 56, 78, 100, 123, 168, 245, 318, 355, 400, 473, 502, 532, 590].contains k then
          a := a.push (i.getId.str (b ++ toString k))
    return Lean.mkNullNode (← a.mapM fun n => `(theorem $(Lean.mkIdent (`PySem.W.Fast |>.str s!"tw{n.hash}")) : True := trivial))
lay_quick PySem.Challenge.cw_hallrules_s01_answers_holds PySem.Challenge.pw_hallrules_s01_answers
set_option maxRecDepth 100000 in
set_option maxHeartbeats 0 in
theorem PySem.Challenge.cw_hallrules_s01_answers_holds : PySem.Challenge.rw_hallrules_s01_answers.Holds := by
 w_on;k_headS;(case hw => exact⟨[.list [.int 1]], by decide +kernel, by decide +kernel⟩)
 k_fillS
 refine L2.a4w (r := PySem.Challenge.rw_hallrules_s01_answers) (k := 12) (CX := L2.CX0) (ps := ["calls"]) (sp := Hr.akc) (by decide +kernel) rfl rfl ⟨rfl, by decide, by decide⟩ (λw h Y => PySem.W.kIn_of Y) ?F ?S (λ_ _ _ _ z => z)
 case F =>
  intro w mg fa h Y KX G hmg
  refine' Hr.all_mk KX G hmg ?_ ?_ ?_ ?_ ?_ ?_ ?_ ?_ ?_ ?_ ?_ ?_ ?_ ?_ ?_ ?_ ?_ ?_ ?_ ?_ ?_ ?_ ?_ ?_ ?_ ?_ ?_ ?_ ?_ ?_ ?_ ?_ ?_ ?_ ?_ ?_ ?_ ?_ ?_ ?_ ?_ ?_ ?_ ?_ ?_ ?_ ?_ ?_ ?_ ?_ ?_ ?_ ?_ ?_ ?_ ?_ ?_ ?_ ?_ ?_ ?_ ?_ ?_ ?_ ?_ ?_ ?_ ?_ ?_ ?_ ?_ ?_ ?_ ?_ ?_ ?_ ?_ ?_ ?_ ?_ ?_ ?_ ?_ ?_ ?_ ?_ ?_ ?_ ?_ ?_ ?_ ?_ ?_ ?_ ?_ ?_ ?_ ?_ ?_ ?_ ?_ ?_ ?_ ?_ ?_ ?_ ?_ ?_ ?_ ?_ ?_ ?_ ?_ ?_ ?_ ?_ ?_ ?_ ?_ ?_ ?_ ?_ ?_ ?_ ?_ ?_ ?_ ?_ ?_ ?_ ?_ ?_ ?_ ?_ ?_ ?_ ?_ ?_ ?_ ?_ ?_ ?_ ?_ ?_ ?_ ?_ ?_ ?_ ?_ ?_ ?_ ?_ ?_ ?_ ?_ ?_ ?_ ?_ ?_ ?_ ?_ ?_ ?_ ?_ ?_ ?_ ?_ ?_ ?_ ?_ ?_ ?_ ?_ ?_ ?_ ?_ ?_ ?_ ?_ ?_ ?_ ?_ ?_ ?_ ?_ ?_ ?_ ?_ ?_ ?_ ?_ ?_ ?_ ?_ ?_ ?_ ?_ ?_ ?_ ?_ ?_ ?_ ?_ ?_ ?_ ?_ ?_ ?_ ?_ ?_ ?_ ?_ ?_ ?_ ?_ ?_ ?_ ?_ ?_ ?_ ?_ ?_ ?_ ?_ ?_ ?_ ?_ ?_ ?_ ?_ ?_ ?_ ?_ ?_ ?_ ?_ ?_ ?_ ?_ ?_ ?_ ?_ ?_ ?_ ?_ ?_ ?_ ?_ ?_ ?_ ?_ ?_ ?_ ?_ ?_ ?_ ?_ ?_ ?_ ?_ ?_ ?_ ?_ ?_ ?_ ?_ ?_ ?_ ?_ ?_ ?_ ?_ ?_ ?_ ?_ ?_ ?_ ?_ ?_ ?_ ?_ ?_ ?_ ?_ ?_ ?_ ?_
  all_goals try first
   | k_is
   | exact Hr.fk (by k_is) (by k_is) (by k_is)
   | exact⟨⟨_, by k_is, by first | exact .own (.own .base) | exact .own .base | exact .own (.own (.own .base)), rfl⟩, by k_is, by k_is, by k_is, by k_is⟩
   | exact⟨_, _, _, _, _, _, _, _, _, _, _, _, _, _, _, by k_is, by decide +kernel, by decide +kernel, by decide +kernel, by decide +kernel⟩
   | exact⟨by k_is, by k_is, by k_is, by k_is⟩
   | decide
 case S =>
  intro K H xs a hO hwi hask hx
  cases hx with
  | cons h1 h2 =>
   cases h2
   cases h1 with
   | lst hs ha =>
    have e := L2.amt a.1 _ ha
    subst e
    have q : ((Codec.inLen 0 30000 a.1&&a.1.all (Codec.inInt 0 4294967295))&&true) = true := hwi
    rw[Bool.and_eq_true, Bool.and_eq_true]at q
    obtain⟨k, hk, pl⟩ := Hm.as7 (l := a.1) hask
    exact⟨_, a.1, _, k, rfl, hs, ⟨(Codec.inNat_iff.mp q.1.1).2, λx hx => by have z := List.all_eq_true.mp q.1.2 x hx;unfold Codec.inInt at z;simp at z;exact z⟩, hk, pl, λH' p hp => .lst (L2.SqL.of hp) (L2.al1 _)⟩
