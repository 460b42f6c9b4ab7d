import PyProof.Rows.All
import Wide.All
import OpenK.AllK
import Wide.FinOn
import Lean
import PyProof.EqAt
import PyProof.EqKinds
import PyProof.TupleCall
import PySem.Challenge.RW_outweave_k63_lines_shown
set_option Elab.async false
set_option linter.all false
set_option maxRecDepth 100000
set_option maxHeartbeats 4000000
section
open PySem PyProof.Rows
abbrev za:=@wpAny_bind
abbrev zb:=@Nat.le_refl
abbrev zc:=@wpAny_pure
abbrev zd:=@List.length_map
abbrev ze:=@List.map_cons
abbrev zf:=@decide_eq_false
abbrev zg:=@Heap.lt_size
abbrev zh:=@Bool.false_ne_true
abbrev zj:=@decide_eq_true
abbrev zk:=@List.mem_singleton
abbrev zl:=@List.getElem?_eq_some_iff
abbrev zm:=@List.getElem?_set_ne
abbrev zn:=@List.length_append
abbrev zo:=@List.mem_cons
abbrev zp:=@List.mem_cons_self
abbrev zq:=@Heap.get?_push_of_some
abbrev zr:=@List.size_toArray
abbrev zt:=@List.mem_cons_of_mem
abbrev zu:=@Bool.and_eq_true
abbrev zv:=@List.getElem?_eq_getElem
abbrev zw:=@List.length_cons
abbrev zx:=@List.mem_map
abbrev zy:=@Nat.ne_of_lt
abbrev zz:=@List.mem_append
abbrev zA:=@List.getElem?_append_left
abbrev zB:=@Option.some.inj
abbrev zC:=@List.getElem?_append_right
abbrev zD:=@List.nil_append
abbrev zF:=@List.getElem?_map
abbrev zG:=@Heap.get?_push_size
abbrev zH:=@List.append_nil
abbrev zI:=@List.append_assoc
abbrev zJ:=@Nat.lt_of_lt_of_le
abbrev zK:=@List.map_append
abbrev zL:=@List.mem_append_right
abbrev zM:=@Nat.le_trans
abbrev zN:=@List.getElem?_set_self
abbrev zO:=@List.map_nil
abbrev zP:=@List.map_map
abbrev zQ:=@Nat.lt_irrefl
abbrev zR:=@List.mem_of_getElem?
abbrev zS:=@List.getElem?_cons_zero
abbrev zT:=@wpAny_mono
abbrev zU:=@List.length_nil
abbrev zV:=@List.length_singleton
abbrev zW:=@List.getElem?_cons_succ
abbrev zX:=@List.length_set
abbrev zY:=@Nat.zero_add
abbrev zZ:=@wpAny_holding
abbrev jc:=@List.map_congr_left
abbrev jd:=@List.all_eq_true
abbrev je:=@Nat.lt_succ_self
abbrev jf:=@Heap.get?_update_other
abbrev jg:=@List.getD_eq_getElem?_getD
abbrev jh:=@of_decide_eq_true
abbrev ji:=@wpAny_updateSeq
abbrev jj:=@Int.emod_nonneg
abbrev jk:=@Int.emod_lt_of_pos
abbrev jl:=@List.set_cons_succ
abbrev jm:=@List.set_cons_zero
abbrev jn:=@Nat.lt_succ_of_lt
abbrev jo:=@List.nodup_append
abbrev jp:=@List.mem_append_left
abbrev jq:=@List.getElem_mem
abbrev jr:=@List.mem_of_mem_drop
end
namespace PySem.W.Fast
abbrev tw16733566272970063292:=()
abbrev tw15359666231713078506:=()
abbrev tw10301587717783974255:=()
abbrev tw17090950411935501119:=()
abbrev tw5288663414197078000:=()
abbrev tw2379218455071610374:=()
abbrev tw9011678978519896747:=()
abbrev tw16479428979041725761:=()
abbrev tw16782607194290659017:=()
abbrev tw460864164230091792:=()
abbrev tw6052083047490498095:=()
abbrev tw8350373078265265160:=()
abbrev tw609681827437711407:=()
abbrev tw4091054738534574362:=()
abbrev tw3378596967351036442:=()
abbrev tw5644017020233852390:=()
abbrev tw1901767448802438252:=()
abbrev tw571981887788222346:=()
abbrev tw8629873513918317461:=()
abbrev tw17141349530812775891:=()
abbrev tw6859165852664180642:=()
abbrev tw13804394297561051296:=()
end PySem.W.Fast
namespace PySem.W.Fast
end PySem.W.Fast
namespace L2
open PySem PySem.Spec PyProof.Rows
abbrev Key:=Sum Int Str
def oY:Key->Value->Bool
 | .inl k,v=>Value.isInt k v
 | .inr x,v=>Value.isStrOf x v
def Rr(w:World):Key->Int
 | .inl k=>hashInt k
 | .inr x=>hashStr w x
theorem jY:∀{k:Key}{v:Value},oY k v=true->(∃i t,k=Sum.inl i/\v=Value.int i t)\/(∃x t,k=Sum.inr x/\v=Value.str x t)
 | .inl i,v,h=>by
  obtain⟨t,e⟩:=Value.isInt_shape (k:=i) (v:=v) h;exact .inl ⟨i,t,rfl,e⟩
 | .inr x,v,h=>by
  obtain⟨t,e⟩:=Value.isStrOf_shape (x:=x) (v:=v) h;exact .inr ⟨x,t,rfl,e⟩
theorem Rt(i:Int)(t:Tok):oY (.inl i) (.int i t)=true:=by simp[oY,Value.isInt]
theorem Ru(x:Str)(t:Tok):oY (.inr x) (.str x t)=true:=by simp[oY,Value.isStrOf]
theorem Rv(a b:Int):decide ((Sum.inl a:Key)=Sum.inl b)=(a == b):=by
 by_cases e:a=b
 ·subst e;simp
 ·have h:¬(Sum.inl a:Key)=Sum.inl b:=λq=>e (Sum.inl.inj q)
  rw[zf h];exact(beq_eq_false_iff_ne.mpr e).symm
theorem Rx(a b:Str):decide ((Sum.inr a:Key)=Sum.inr b)=decide (a=b):=by
 by_cases e:a=b
 ·subst e;simp
 ·have h:¬(Sum.inr a:Key)=Sum.inr b:=λq=>e (Sum.inr.inj q)
  rw[zf h,zf e]
theorem Ry(a:Int)(b:Str):decide ((Sum.inl a:Key)=Sum.inr b)=false:=zf (λq=>nomatch q)
theorem Rz(a:Str)(b:Int):decide ((Sum.inr a:Key)=Sum.inl b)=false:=zf (λq=>nomatch q)
def eQ(prog:Program)(w:World):PySem.KeyKind prog w Key where
 is:=oY
 hash:=Rr w
 inj:=λv a b ha hb=>by
  rcases jY ha with⟨i,t,rfl,rfl⟩ | ⟨x,t,rfl,rfl⟩
  ·rcases jY hb with⟨j,u,rfl,e⟩ | ⟨y,u,rfl,e⟩
   ·injection e with e1 _;rw[e1]
   ·exact nomatch e
  ·rcases jY hb with⟨j,u,rfl,e⟩ | ⟨y,u,rfl,e⟩
   ·exact nomatch e
   ·injection e with e1 _;rw[e1]
 byValue:=λk v h=>by
  rcases jY h with⟨i,t,rfl,rfl⟩ | ⟨x,t,rfl,rfl⟩<;>rfl
 pyHash:=λhv h=>by
  rcases jY hv with⟨i,t,rfl,rfl⟩ | ⟨x,t,rfl,rfl⟩
  ·exact wpAny_pyHash_int h
  ·exact wpAny_pyHash_str h
 eqBool:=λhu hv h=>by
  rcases jY hu with⟨i,t,rfl,rfl⟩ | ⟨x,t,rfl,rfl⟩
  ·rcases jY hv with⟨j,u,rfl,rfl⟩ | ⟨y,u,rfl,rfl⟩
   ·rw[Rv] at h;exact wpAny_eqBool_int h
   ·rw[Ry] at h;exact SeqAt.EqAt.int_str i t y u _ _ _ _ h
  ·rcases jY hv with⟨j,u,rfl,rfl⟩ | ⟨y,u,rfl,rfl⟩
   ·rw[Rz] at h;exact SeqAt.EqAt.str_int x t j u _ _ _ _ h
   ·rw[Rx] at h;exact wpAny_eqBool_str h
 «strs»:=λk x t v h=>by
  rcases jY h with⟨i,u,rfl,e⟩ | ⟨y,u,rfl,e⟩
  ·exact nomatch e
  ·injection e with e1 _
   subst e1
   cases v<;>rfl
theorem RB(prog:Program)(w:World)(i:Int)(t:Tok):(eQ prog w).is (.inl i) (.int i t)=true:=Rt i t
theorem RC(prog:Program)(w:World)(x:Str)(t:Tok):(eQ prog w).is (.inr x) (.str x t)=true:=Ru x t
inductive V where
 | non | bl (b:Bool) | int (i:Int) | str (x:Str) | byt (b:Array UInt8) | flt (b:UInt64) | ref (a:Addr) | ty (n:String)
 deriving DecidableEq
def RelV:V->Value->Prop
 | .non,u=>u=Value.none
 | .bl b,u=>u=Value.bool b
 | .int i,u=>∃t,u=Value.int i t
 | .str x,u=>∃t,u=Value.str x t
 | .byt b,u=>∃t,u=Value.bytes b t
 | .flt b,u=>∃t,u=Value.float b t
 | .ref a,u=>u=Value.ref a
 | .ty n,u=>u=Value.type n
abbrev aU:List V->List Value->Prop:=Paired RelV
theorem aU.length{xs:List V}{us:List Value}(r:aU xs us):xs.length=us.length:=Paired.length r
theorem aU.get:∀{xs:List V}{us:List Value}{i:Nat}{x:V},aU xs us->xs[i]?=some x->∃u,us[i]?=some u/\RelV x u
 | _,_,_,_,.nil,e=>by simp at e
 | _,_,0,_,.cons r _,e=>by simp at e;subst e;exact⟨_,rfl,r⟩
 | _,_,i+1,x,.cons _ t,e=>by
  obtain⟨u,h1,h2⟩:=aU.get (i:=i) (x:=x) t (by simpa using e);exact⟨u,by simpa using h1,h2⟩
theorem aU.append:∀{xs ys:List V}{us a:List Value},aU xs us->aU ys a->aU (xs++ys) (us++a)
 | _,_,_,_,.nil,s=>s
 | _,_,_,_,.cons r t,s=>.cons r (aU.append t s)
theorem aU.take:∀{xs:List V}{us:List Value} (n:Nat),aU xs us->aU (xs.take n) (us.take n)
 | _,_,0,_=>.nil
 | _,_,_+1,.nil=>.nil
 | _,_,n+1,.cons r t=>.cons r (aU.take n t)
theorem aU.drop:∀{xs:List V}{us:List Value} (n:Nat),aU xs us->aU (xs.drop n) (us.drop n)
 | _,_,0,r=>r
 | _,_,_+1,.nil=>.nil
 | _,_,n+1,.cons _ t=>aU.drop n t
def fC:Option V->Option Value->Prop
 |some v,some u=>RelV v u
 |none,none=>True
 | _,_=>False
def KV{κ:Type}:List (κ×V)->List (κ×Value)->Prop:=Paired λ(p:κ×V) (q:κ×Value)=>p.1=q.1/\RelV p.2 q.2
def kV:Key->V
 | .inl i=>.int i
 | .inr x=>.str x
inductive HO where
  | lst (xs:List V)
  | tup (xs:List V)
  | dK (kvs:List (Key×V)) | dT (kvs:List (List Key×V))
  | set (S:Int->Bool) (n:Nat)
  | ins (C dx:Addr) (fs:List (Str×V))
  | own (x:Addr)
  | xd (fs:List (Str×V))
  | met (f x:Addr)
  | rng (lo hi:Int)
  | frz (o:Obj) (u:HO)
  | tbl (ps:Array Value)
  | ext (φ:Heap->Prop)
abbrev Hp:=Addr->Option HO
def upd(H:Hp)(a:Addr)(o:HO):Hp:=λb=>if b=a then some o else H b
theorem bN{H:Hp}{a:Addr}{o:HO}:upd H a o a=some o:=by unfold upd;rw[if_pos rfl]
theorem aO{H:Hp}{a b:Addr}{o:HO}(h:b≠a):upd H a o b=H b:=by unfold upd;rw[if_neg h]
theorem ne_of{H:Hp}{a b:Addr}{o u:HO}(h:H a=some o)(h':H b=some u)(d:o≠u):a≠b:=by
 intro e;subst e;rw[h] at h';exact d (zB h')
theorem cN{H:Hp}{a b:Addr}{o:HO}(h:H a=some o)(h':H b=none):a≠b:=by
 intro e;subst e;rw[h] at h';cases h'
section
variable (P:Program)(w:World)
def cF(H:Hp)(h:Heap)(a:Addr):HO->Prop
 | .lst c=>c.length<=sizeLine/\∃(b:List Value) (n:Nat),aU c b/\h.get? a=some {cls:=.type "list",data:=.seq b.toArray n}
 | .tup c=>c.length<=sizeLine/\∃b:List Value,aU c b/\IsTup h a b.toArray
 | .dK kvs=>kvs.length<=sizeLine/\(a == sysModules)=false/\∃g,KV kvs g/\h.DictOf (eQ P w) a g
 | .dT kvs=>kvs.length<=sizeLine/\(a == sysModules)=false/\∃c:List (List Key×Addr×Value),
   Paired (λ(p:List Key×V) (q:List Key×Addr×Value)=>p.1=q.1/\H q.2.1=some (.tup (p.1.map kV))/\RelV p.2 q.2.2) kvs c /\
   ∃o i j,h.get? a=some o/\o.ExactDict/\o.data=.dict i j/\i.toList=c.map (entryOfKey (tupleKind (eQ P w)))/\(c.map (·.1)).Nodup
 | .set S n=>h.SetOf (intKind P w) a S n
 | .ins C dx fs=>H dx=some (.own a)/\fs.length<=1000/\dx≠a/\h.get? a=some (PySem.W.instObj C dx) /\
   ∃d,h.Ns1 dx d/\(∀f,fC (fs.lookup f) (d f))/\PySem.Within d (fs.map (·.1))
 | .own _=>∃o,h.get? a=some o
 | .xd fs=>∃d,h.Ns1 a d/\∀f,fC (fs.lookup f) (d f)
 | .rng lo hi=>∃t u v,h.get? a=some {cls:=.type "range",data:=.fields #[.int lo t,.int hi u,.int 1 v]}
 | .frz o u=>h.get? a=some o/\cF H h a u
 | .tbl ps=>h.get? a=some {cls:=.none,data:=.fields ps}
 | .met f x=>h.get? a=some (PySem.W.methodObj (.ref f) (.ref x))
 | .ext φ=>φ h/\(∃o,h.get? a=some o)/\∀h1 h2:Heap,φ h1->(∀o,h1.get? a=some o->h2.get? a=some o)->φ h2
def HOk(H:Hp)(h:Heap):Prop:=∀a o,H a=some o->cF P w H h a o
end
section
variable {P:Program}{w:World}{H H':Hp}{h h':Heap}{a:Addr}{o:HO}
theorem cF.lt(x:cF P w H h a o):a<h.objs.size:=by
 cases o with
 |lst c=>obtain⟨_,_,_,_,e⟩:=x;exact zg e
 |tup c=>obtain⟨_,_,_,p⟩:=x;exact p.lt
 |dK b=>obtain⟨_,_,_,_,o,_,_,e,_⟩:=x;exact zg e
 |dT b=>obtain⟨_,_,_,_,o,_,_,e,_⟩:=x;exact zg e
 |set S n=>obtain⟨o,_,_,_,e,_⟩:=x;exact zg e
 |ins C g fs=>obtain⟨_,_,_,e,_⟩:=x;exact zg e
 |own y=>obtain⟨_,e⟩:=x;exact zg e
 |xd fs=>obtain⟨_,⟨_,_,_,e,_⟩,_⟩:=x;exact zg e
 |rng lo hi=>obtain⟨_,_,_,e⟩:=x;exact zg e
 |frz ob u=>obtain⟨e,_⟩:=x;exact zg e
 |tbl d=>exact zg (show h.get? a=some _ from x)
 |met f y=>exact zg (show h.get? a=some _ from x)
 |ext φ=>obtain⟨_,⟨_,e⟩,_⟩:=x;exact zg e
theorem Paired.mapP{α β:Type}{F G:α->β->Prop}:∀{d:List α}{c:List β},Paired F d c->(∀a b,F a b->G a b)->Paired G d c
 | _,_,.nil,_=>.nil
 | _,_,.cons r t,f=>.cons (f _ _ r) (Paired.mapP t f)
theorem cF.stay(x:cF P w H h a o)(k:∀b u,(b=a\/H b=some (.own a))->h.get? b=some u->h'.get? b=some u)
  (J:∀b,H b=some (.own a)->H' b=some (.own a)) (I:∀b xs,H b=some (.tup xs)->H' b=some (.tup xs)):cF P w H' h' a o:=by
 induction o with
 |lst xs=>obtain⟨z,j,n,r,e⟩:=x;exact⟨z,j,n,r,k _ _ (.inl rfl) e⟩
 |tup xs=>obtain⟨z,j,r,ob,e,c⟩:=x;exact⟨z,j,r,ob,k _ _ (.inl rfl) e,c⟩
 |dK B=>obtain⟨z,y,F,r,ob,g,i,e,c⟩:=x;exact⟨z,y,F,r,ob,g,i,k _ _ (.inl rfl) e,c⟩
 |dT B =>
  obtain⟨z,y,xs,r,ob,g,i,e,c⟩:=x;exact⟨z,y,xs,Paired.mapP r λp q z=>⟨z.1,I _ _ z.2.1,z.2.2⟩,ob,g,i,k _ _ (.inl rfl) e,c⟩
 |set S n=>obtain⟨ob,g,i,t,e,c⟩:=x;exact⟨ob,g,i,t,k _ _ (.inl rfl) e,c⟩
 |ins C dx fs =>
  obtain⟨d,z,ne,e,m,⟨l,g,i,L,c⟩,r⟩:=x;exact⟨J _ d,z,ne,k _ _ (.inl rfl) e,m,⟨l,g,i,k _ _ (.inr d) L,c⟩,r⟩
 |own y=>obtain⟨ob,e⟩:=x;exact⟨ob,k _ _ (.inl rfl) e⟩
 |xd fs=>obtain⟨m,⟨l,g,i,e,c⟩,r⟩:=x;exact⟨m,⟨l,g,i,k _ _ (.inl rfl) e,c⟩,r⟩
 |rng lo hi=>obtain⟨t,u,v,e⟩:=x;exact⟨t,u,v,k _ _ (.inl rfl) e⟩
 |frz ob u G=>obtain⟨e,q⟩:=x;exact⟨k _ _ (.inl rfl) e,G q⟩
 |tbl ps =>
  have e:h.get? a=some {cls:=.none,data:=.fields ps}:=x;show h'.get? a=some {cls:=.none,data:=.fields ps};exact k a _ (.inl rfl) e
 |met f y =>
  have e:h.get? a=some (PySem.W.methodObj (.ref f) (.ref y)):=x;show h'.get? a=some (PySem.W.methodObj (.ref f) (.ref y));exact k a _ (.inl rfl) e
 |ext φ=>obtain⟨p,⟨o,e⟩,E⟩:=x;exact⟨E _ _ p λo q=>k _ _ (.inl rfl) q,⟨o,k _ _ (.inl rfl) e⟩,E⟩
theorem HOk.lt(x:HOk P w H h)(e:H a=some o):a<h.objs.size:=(x a o e).lt
theorem HOk.fresh(x:HOk P w H h)(e:h.objs.size<=a):H a=none:=by
 cases q:H a with
 |none=>rfl
 |some u=>exact absurd (zJ (x.lt q) e) (zQ _)
theorem HOk.kept(x:HOk P w H h)(k:∀b u,h.get? b=some u->h'.get? b=some u):HOk P w H h':=λa o e =>
 (x a o e).stay (λb u _ q=>k b u q) (λ_ q=>q) λ_ _ q=>q
theorem HOk.laid(x:HOk P w H h)(k:∀b u,h.get? b=some u->h'.get? b=some u)(i:h.objs.size<=a)(d:cF P w (upd H a o) h' a o):HOk P w (upd H a o) h':=λb u e=>by
 have f:=x.fresh i
 by_cases g:b=a
 ·subst g;rw[bN] at e;cases e;exact d
 ·rw[aO g] at e
  exact(x b u e).stay (λc v _ q=>k c v q) (λc q=>by rw[aO (cN q f)];exact q) λc j q=>by rw[aO (cN q f)];exact q
end
def Rd(H:Hp)(a:Addr)(u:HO):Prop:=H a=some u\/∃o,H a=some (.frz o u)
theorem Rd.ok{P:Program}{w:World}{H:Hp}{h:Heap}{a:Addr}{u:HO}(r:Rd H a u)(x:HOk P w H h):cF P w H h a u:=by
 rcases r with r | ⟨o,r⟩
 ·exact x a u r
 ·obtain⟨_,q⟩:=x a _ r;exact q
def Mut:Option HO->Prop
 |some (.lst _)=>True
 |some (.dK _)=>True
 |some (.dT _)=>True
 |some (.set _ _)=>True
 |some (.ins _ _ _)=>True
 |some (.ext _)=>True
 | _=>False
section
variable {P:Program}{w:World}{H:Hp}{h h':Heap}{x e:Addr}{o':HO}
theorem HOk.write(ok:HOk P w H h)(g:Mut (H x))(m:e=x\/H e=some (.own x))(k:∀b u,b≠e->h.get? b=some u->h'.get? b=some u)(l:∃u,h'.get? e=some u)
  (j:cF P w (upd H x o') h' x o'):HOk P w (upd H x o') h':=λb u q=>by
 have d:∀c y,H c=some (.own y)->c≠x:=λc y r z=>by subst z;rw[r] at g;exact g
 have f:∀c xs,H c=some (.tup xs)->c≠x:=λc xs r z=>by subst z;rw[r] at g;exact g
 by_cases hb:b=x
 ·subst hb;rw[bN] at q;cases q;exact j
 ·rw[aO hb] at q
  by_cases a:b=e
  ·have q':H b=some (.own x):=by
    rcases m with z | z
    ·exact absurd (a.trans z) hb
    ·rw[a];exact z
   rw[q] at q';cases q';obtain⟨v,n⟩:=l;exact⟨v,by rw[a];exact n⟩
  ·refine(ok b u q).stay (λc v i r=>k c v ?_ r) (λc r=>by rw[aO (d c b r)];exact r) λc xs r=>by rw[aO (f c xs r)];exact r
   rcases i with rfl | i
   ·exact a
   ·rintro rfl
    rcases m with z | z
    ·exact d c b i z
    ·rw[i] at z;cases z;exact hb rfl
end
structure Un(fs ex:List Addr)(H H':Hp)(h h':Heap):Prop where
 keep:∀b o,h.get? b=some o->H b=none->b∉fs->b∉ex->h'.get? b=some o
 slot:∀b o,h.get? b=some o->H b=none->b∈fs->b∉ex->∃sl,h'.get? b=some {o with slots:=sl}
 free:∀b o,h.get? b=some o->H b=none->b∉ex->H' b=none
 there:∀b o,h.get? b=some o->b∉ex->∃o',h'.get? b=some o'
 tups:∀b xs,H b=some (.tup xs)->H' b=some (.tup xs)
 frzs:∀b o u,H b=some (.frz o u)->H' b=some (.frz o u)
 tbls:∀b ps,H b=some (.tbl ps)->∃more,H' b=some (.tbl (ps++more))
section
variable {fs fs' ex ex':List Addr}{H H1 H2:Hp}{h h1 h2 h':Heap}{a x e:Addr}{o:HO}
theorem Un.any(u:Un fs ex H H1 h h1){b:Addr}{ob:Obj}(q:h.get? b=some ob)(n:H b=none)(c:b∉ex):∃sl,h1.get? b=some {ob with slots:=sl}:=by
 by_cases d:b∈fs
 ·exact u.slot b ob q n d c
 ·exact⟨ob.slots,u.keep b ob q n d c⟩
theorem Un.kept(k:∀b u,h.get? b=some u->h'.get? b=some u):Un fs ex H H h h' :=
 ⟨λb ob q _ _ _=>k b ob q,λb ob q _ _ _=>⟨ob.slots,k b ob q⟩,λ_ _ _ n _=>n,λb ob q _=>⟨ob,k b ob q⟩,λ_ _ q=>q,λ_ _ _ q=>q,λ_ c q=>⟨#[],by rw[q];simp⟩⟩
theorem Un.refl:Un fs ex H H h h:=Un.kept λ_ _ q=>q
theorem Un.laid(k:∀b u,h.get? b=some u->h'.get? b=some u)(hp:h.objs.size<=a)(hn:H a=none):Un fs ex H (upd H a o) h h' where
 keep:=λb u q _ _ _=>k b u q
 slot:=λb u q _ _ _=>⟨u.slots,k b u q⟩
 free:=λb u q n _=>by rw[aO (zy (zJ (zg q) hp))];exact n
 there:=λb u q _=>⟨u,k b u q⟩
 tups:=λb xs q=>by rw[aO (cN q hn)];exact q
 frzs:=λb u xs q=>by rw[aO (cN q hn)];exact q
 tbls:=λb ps q=>⟨#[],by rw[aO (cN q hn),q];simp⟩
theorem Un.write(d:Mut (H x))(m:e=x\/H e=some (.own x))(k:∀b u,b≠e->h.get? b=some u->h'.get? b=some u)(g:∃u,h'.get? e=some u):Un fs ex H (upd H x o) h h':=by
 have i:∀b,H b=none->b≠x:=λb n z=>by subst z;rw[n] at d;exact d
 have j:∀b,H b=none->b≠e:=λb n z=>by
  subst z
  rcases m with r | r
  ·exact i b n r
  ·rw[n] at r;cases r
 have f:∀b u,H b=some u->¬Mut (some u)->b≠x:=λb u q nm z=>by subst z;rw[q] at d;exact nm d
 refine⟨λb u q n _ _=>k b u (j b n) q,λb u q n _ _=>⟨u.slots,k b u (j b n) q⟩,λb u q n _=>by rw[aO (i b n)];exact n,λb u q _=>?_,
  λb l q=>by rw[aO (f b _ q λz=>z)];exact q,λb u l q=>by rw[aO (f b _ q λz=>z)];exact q,λb y q=>⟨#[],by rw[aO (f b _ q λz=>z),q];simp⟩⟩
 by_cases c:b=e
 ·subst c;exact g
 ·exact⟨u,k b u c q⟩
end
def trk(h:Heap)(H:Hp):List Addr:=(List.range h.objs.size).filter λa=>(H a).isSome
def fX(h:Heap)(H:Hp):Heap:=PySem.W.hideAll h (trk h H)
theorem HS(h:Heap)(H:Hp):(fX h H).objs.size=h.objs.size:=PySem.W.hideAll_size _ _
theorem HW{h:Heap}{H:Hp}{b:Addr}{o:Obj}(e:h.get? b=some o)(n:H b=none):(fX h H).get? b=some o :=
 PySem.W.hideAll_get _ e λa=>by
  have q:(H b).isSome=true:=(List.mem_filter.mp a).2;rw[n] at q;simp at q
theorem HX{h:Heap}{H:Hp}{b:Addr}{o:Obj}(e:(fX h H).get? b=some o):h.get? b=some o/\H b=none:=by
 have e':h.get? b=some o:=PySem.W.of_hideAll (trk h H) e;refine⟨e',?_⟩
 cases q:H b with
 |none=>rfl
 |some x =>
  have a:b∈trk h H:=List.mem_filter.mpr ⟨List.mem_range.mpr (zg e'),by simp[q]⟩;have z:(fX h H).get? b=none:=PySem.W.hideAll_none (trk h H) a;rw[z] at e;cases e
def RD(g h:Heap)(L:Addr):List (Addr×Obj):=(List.range h.objs.size).filterMap λa=>if a=L\/(g.get? a).isSome=true then none else(h.get? a).map λo=>(a,o)
def rest(g h:Heap)(L d:Addr):List (Addr×Obj):=(RD g h L).filter λp=>decide (p.1≠d)
structure Mod(K:PySem.W.Frag)(mg:Str->Option Value)(base:Heap):Prop where
 kin:K.In base
 glob:base.Ns mainGlobals mg
 blt:∃mb,base.Ns builtinsNs mb/\∀x:Str,x≠"__name__"->mb x=bootBuiltins x
 nolimit:base.NoLimit
structure Cx where
 prog:Program
 w:World
 K:PySem.W.Frag
 mg:Str->Option Value
 base:Heap
 A:Around
 N:List Str
 s₀:Shared
 H₀:Hp
 env:Env
 outer:List Env
 stack:List Env
 ex:List Addr
 fn:Str->Bool
 calm:Bool
 pn:List (Addr×Obj)
 xe:Value->Shared->Prop
def frs(l:List Env):List Addr:=l.filterMap (·.frame)
abbrev Cx.fs(X:Cx):List Addr:=frs X.outer
def Vis(sc:Scope)(x:Str):Prop:=sc.names.lookup x=some .local\/sc.names.lookup x=some .cell\/sc.names.lookup x=some .free
def Loc(sc:Scope)(x:Str):Prop:=sc.names.lookup x=some .local\/sc.names.lookup x=some .cell
def Look(env:Env)(h:Heap)(m:Str->Option Value)(x:Str)(u:Value):Prop :=
 (env.kindOf x=some .local/\m x=some u)\/((env.kindOf x=some .cell\/env.kindOf x=some .free)/\∃c,env.cells.lookup x=some c/\h.IsCell c (some u))
structure Cx.Ok(X:Cx):Prop where
 mod:Mod X.K X.mg X.base
 kind:X.env.scope.kind=.function
 glob:X.env.globals=mainGlobals
 blt:X.env.builtins=builtinsNs
 above:X.s₀.heap.objs.size<=X.env.locals
 inj:∀x y c,X.env.cells.lookup x=some c->X.env.cells.lookup y=some c->x=y
 has:∀x,(X.env.kindOf x=some .cell\/X.env.kindOf x=some .free)->∃c,X.env.cells.lookup x=some c
 cab:∀x c,X.fn x=true->X.env.cells.lookup x=some c->X.s₀.heap.objs.size<=c
 hd:X.calm=true->X.A.handled=none
 frames:X.A.frames=some X.stack
 stk:X.stack=X.outer\/(X.stack=X.env::X.outer/\X.env.frame=some X.env.locals)
 exf:∀b∈X.ex,b≠X.env.locals/\∀x c,X.env.cells.lookup x=some c->c≠b
 bs:∀b o,X.base.get? b=some o->X.s₀.heap.get? b=some o/\X.H₀ b=none
 bsz:X.base.objs.size<=X.s₀.heap.objs.size
 noex:∀b o,X.base.get? b=some o->b∉X.ex
 exfs:∀b∈X.ex,b∉X.fs
 funs:X.s₀.heap.FunFrames X.base X.outer
 frf:∀b∈X.fs,X.H₀ b=none
structure Inv(X:Cx)(pins:List (Addr×Obj))(σ:List (Option V))(H:Hp)(s:Shared):Prop where
 ok:X.Ok
 os:s.os=X.s₀.os
 bare:AllBare s.gens
 base:Un X.fs X.ex X.H₀ H X.s₀.heap s.heap
 loc:∃m,s.heap.Ns X.env.locals m/\∀(i:Nat) (x:Str) (v:V),X.N[i]?=some x->σ[i]?=some (some v)->Vis X.env.scope x->∃u,RelV v u/\Look X.env s.heap m x u
 cell:∀x c,X.env.cells.lookup x=some c->∃v,s.heap.IsCell c v
 free:H X.env.locals=none
 freeC:∀x c,X.env.cells.lookup x=some c->H c=none
 pin:∀p∈X.pn++pins,s.heap.get? p.1=some p.2/\H p.1=none/\p.1≠X.env.locals/\p.1∉X.fs/\∀v,p.2.data≠.cell v
 hok:HOk X.prog X.w H s.heap
 len:σ.length=X.N.length
section
variable {X:Cx}{pins:List (Addr×Obj)}{σ:List (Option V)}{H H':Hp}{s:Shared}{h':Heap}
theorem Cx.Ok.nofr(ok:X.Ok){b:Addr}{o:Obj}(e:X.base.get? b=some o):b∉X.fs:=λa=>by
 have:=(ok.funs.mem a).1
 rw[e] at this;cases this
theorem Inv.bs(I:Inv X pins σ H s):∀b o,X.base.get? b=some o->s.heap.get? b=some o/\H b=none:=λb o e =>
 ⟨I.base.keep b o (I.ok.bs b o e).1 (I.ok.bs b o e).2 (I.ok.nofr e) (I.ok.noex b o e),I.base.free b o (I.ok.bs b o e).1 (I.ok.bs b o e).2 (I.ok.noex b o e)⟩
theorem Inv.bk(I:Inv X pins σ H s):∀b o,X.base.get? b=some o->s.heap.get? b=some o:=λb o e=>(I.bs b o e).1
theorem Inv.mod(I:Inv X pins σ H s):Mod X.K X.mg X.base:=I.ok.mod
theorem Inv.kIn(I:Inv X pins σ H s):X.K.In s.heap:=I.ok.mod.kin.keeps I.bk
theorem Inv.lt(I:Inv X pins σ H s):X.env.locals<s.heap.objs.size:=let ⟨_,hn,_⟩:=I.loc;hn.lt
theorem Inv.sz(I:Inv X pins σ H s):X.s₀.heap.objs.size<=s.heap.objs.size:=zM I.ok.above (Nat.le_of_lt I.lt)
theorem Inv.nofs(I:Inv X pins σ H s){a:Addr}(h:s.heap.objs.size<=a):a∉X.fs:=λc=>by
 obtain⟨_,o,b,_⟩:=I.ok.funs.mem c;exact absurd (zJ (zg b) (zM I.sz h)) (zQ _)
theorem Inv.cne(I:Inv X pins σ H s):∀x c,X.env.cells.lookup x=some c->c≠X.env.locals:=λx c e z=>by
 obtain⟨v,o,d,hd⟩:=I.cell x c e;obtain⟨m,⟨f,g,h,a,b,_⟩,_⟩:=I.loc;rw[z,a] at d;cases d;rw[b] at hd;cases hd
theorem Inv.funs(I:Inv X pins σ H s):s.heap.FunFrames X.base X.outer:=by
 have all:∀(l:List Env),(∀b∈frs l,b∈X.fs)->X.s₀.heap.FunFrames X.base l->s.heap.FunFrames X.base l:=by
  intro l
  induction l with
  |nil=>intro _ _;trivial
  |cons env r ih =>
   intro f j;obtain⟨m,⟨L,o,a,i,h,hd⟩,g⟩:=j;have d:L∈X.fs:=f L (by unfold frs;rw[List.filterMap_cons,a];exact zp)
   obtain⟨sl,e⟩:=I.base.slot L o h (I.ok.frf L d) d λz=>I.ok.exfs L z d
   exact⟨m,⟨L,_,a,i,e,hd⟩,ih (λb c=>f b (by unfold frs;rw[List.filterMap_cons,a];exact zt _ c)) g⟩
 exact all X.outer (λ_ c=>c) I.ok.funs
theorem Inv.stack(I:Inv X pins σ H s):s.heap.FunFrames X.base X.stack:=by
 rcases I.ok.stk with e | ⟨e,b⟩
 ·rw[e];exact I.funs
 ·rw[e];obtain⟨m,a,_⟩:=I.loc;refine .cons (by rw[I.ok.kind];decide) b a ?_ I.funs;exact Heap.get?_none_of_le (zM I.ok.bsz I.ok.above)
theorem Inv.stkSub(I:Inv X pins σ H s):∀b∈frs X.stack,b∈X.env.locals::X.fs:=λb a=>by
 rcases I.ok.stk with e | ⟨e,c⟩
 ·rw[e] at a;exact zt _ a
 ·rw[e] at a;unfold frs at a;rw[List.filterMap_cons,c] at a;exact a
theorem Inv.stkFree(I:Inv X pins σ H s):∀b∈frs X.stack,H b=none:=λb a=>by
 rcases zo.mp (I.stkSub b a) with e | a
 ·rw[e];exact I.free
 ·obtain⟨_,o,c,_⟩:=I.ok.funs.mem a
  exact I.base.free b o c (I.ok.frf b a) λz=>I.ok.exfs b z a
theorem Inv.step{g':Array GenState}{t':Nat}{d':Drawn}{ch:List Addr}(I:Inv X pins σ H s)
  (g:∀b∈ch,(b∈X.ex\/X.s₀.heap.objs.size<=b)/\b≠X.env.locals/\(∀x c,X.env.cells.lookup x=some c->c≠b)/\∀p∈X.pn++pins,p.1≠b)
  (keep:∀b o,b≠X.env.locals->b∉X.fs->b∉ch->s.heap.get? b=some o->H b=none->h'.get? b=some o)
  (slot:∀b o,b≠X.env.locals->b∈X.fs->b∉ch->s.heap.get? b=some o->H b=none->∃sl,h'.get? b=some {o with slots:=sl}) (free:∀b o,b∉ch->s.heap.get? b=some o->H b=none->H' b=none)
  (there:∀b o,b∉ch->s.heap.get? b=some o->∃C,h'.get? b=some C)
  (tups:∀b xs,H b=some (.tup xs)->H' b=some (.tup xs)) (frzs:∀b o u,H b=some (.frz o u)->H' b=some (.frz o u)) (tbls:∀b ps,H b=some (.tbl ps)->∃more,H' b=some (.tbl (ps++more)))
  (ns:∀m,s.heap.Ns X.env.locals m->h'.Ns X.env.locals m) (hok:HOk X.prog X.w H' h') (U:AllBare g'):
  Inv X pins σ H' {s with heap:=h',gens:=g',drawn:=d',toks:=t'}:=by
 have F:∀b o,X.s₀.heap.get? b=some o->b≠X.env.locals:=λb o e=>zy (zJ (zg e) I.ok.above)
 have j:∀b o,X.s₀.heap.get? b=some o->b∉X.ex->b∉ch:=λb o e a y=>by
  rcases(g b y).1 with z | z
  ·exact a z
  ·exact absurd (zJ (zg e) z) (zQ _)
 have cellK:∀x c,X.env.cells.lookup x=some c->∀v,s.heap.IsCell c v->h'.IsCell c v:=λx c e v ⟨o,B,hd⟩=>by
  have f:c∉ch:=λz=>(g c z).2.2.1 x c e rfl
  by_cases O:c∈X.fs
  ·obtain⟨sl,q⟩:=slot c o (I.cne x c e) O f B (I.freeC x c e);exact⟨_,q,hd⟩
  ·exact⟨o,keep c o (I.cne x c e) O f B (I.freeC x c e),hd⟩
 refine⟨I.ok,I.os,U,⟨λb o e n y a=>?_,λb o e n y a=>?_,λb o e n a=>?_,λb o e a=>?_,λb xs e=>tups b xs (I.base.tups b xs e),λb o xs e=>frzs b o xs (I.base.frzs b o xs e),λb ps e=>?_⟩,?_,λx c e=>?_,?_,λx c e=>?_,λp L=>?_,hok,I.len⟩
 ·exact keep b o (F b o e) y (j b o e a) (I.base.keep b o e n y a) (I.base.free b o e n a)
 ·obtain⟨sl,h⟩:=I.base.slot b o e n y a;obtain⟨G,E⟩:=slot b _ (F b o e) y (j b o e a) h (I.base.free b o e n a);exact⟨G,E⟩
 ·obtain⟨C,h⟩:=I.base.there b o e a;exact free b C (j b o e a) h (I.base.free b o e n a)
 ·obtain⟨C,h⟩:=I.base.there b o e a;exact there b C (j b o e a) h
 ·obtain⟨Q,h⟩:=I.base.tbls b ps e;obtain⟨P,E⟩:=tbls b _ h;exact⟨Q++P,by rw[E,Array.append_assoc]⟩
 ·obtain⟨m,R,T⟩:=I.loc;refine⟨m,ns m R,λi x v h E W=>?_⟩;obtain⟨u,r,l⟩:=T i x v h E W;refine⟨u,r,?_⟩
  rcases l with l | ⟨k,c,e,z⟩
  ·exact .inl l
  ·exact .inr ⟨k,c,e,cellK x c e _ z⟩
 ·obtain⟨v,z⟩:=I.cell x c e;exact⟨v,cellK x c e v z⟩
 ·obtain⟨m,⟨o,_,_,B,_⟩,_⟩:=I.loc;exact free _ o (λz=>(g _ z).2.1 rfl) B I.free
 ·obtain⟨v,o,B,hd⟩:=I.cell x c e;exact free c o (λz=>(g c z).2.2.1 x c e rfl) B (I.freeC x c e)
 ·obtain⟨e,n,ne,J,d⟩:=I.pin p L
  have f:p.1∉ch:=λz=>(g p.1 z).2.2.2 p L rfl
  exact⟨keep p.1 p.2 ne J f e n,free p.1 p.2 f e n,ne,J,d⟩
theorem Inv.un{t':Nat}(I:Inv X pins σ H s)(u:Un X.fs [] H H' s.heap h')(hok:HOk X.prog X.w H' h'):Inv X pins σ H' {s with heap:=h',toks:=t'}:=by
 obtain⟨m,⟨o,x,y,g,r⟩,_⟩:=id I.loc;obtain⟨sl,j⟩:=u.any g I.free (by simp)
 exact I.step (g':=s.gens) (d':=s.drawn) (ch:=[]) (λ_ z=>nomatch z) (λb o _ c _ e n=>u.keep b o e n c (by simp)) (λb o _ c _ e n=>u.slot b o e n c (by simp)) (λb o _ e n=>u.free b o e n (by simp)) (λb o _ e=>u.there b o e (by simp)) u.tups u.frzs u.tbls (λq i=>by
  obtain⟨l,d,f,a,h⟩:=i;rw[g] at a;cases a
  exact⟨_,d,f,j,h⟩) hok I.bare
theorem Inv.call{g':Array GenState}{t':Nat}{d':Drawn}{ch:List Addr}(I:Inv X pins σ H s)(u:Un (frs X.stack) ch H H' s.heap h')(hok:HOk X.prog X.w H' h')(y:AllBare g')
  (f:∀b∈ch,(b∈X.ex\/X.s₀.heap.objs.size<=b)/\b≠X.env.locals/\(∀x c,X.env.cells.lookup x=some c->c≠b)/\∀p∈X.pn++pins,p.1≠b):
  Inv X pins σ H' {s with heap:=h',gens:=g',drawn:=d',toks:=t'}:=by
 obtain⟨m,⟨o,F,G,j,r⟩,_⟩:=id I.loc
 obtain⟨sl,g⟩:=u.any j I.free λz=>(f _ z).2.1 rfl
 exact I.step (ch:=ch) f (λb o g B a e n=>u.keep b o e n (λz=>(zo.mp (I.stkSub b z)).elim g B) a) (λb o _ _ a e n=>u.any e n a) (λb o a e n=>u.free b o e n a) (λb o a e=>u.there b o e a) u.tups u.frzs u.tbls (λE q=>by
  obtain⟨C,h,i,d,l⟩:=q;rw[j] at d;cases d
  exact⟨_,h,i,g,l⟩) hok y
theorem Inv.turned{t':Nat}{it:Addr}(I:Inv X pins σ H s)(k:∀b o,b≠it->s.heap.get? b=some o->h'.get? b=some o)(h:H it=none)(f:it≠X.env.locals)
  (h1:it∈X.ex\/X.s₀.heap.objs.size<=it) (h2:∀x c,X.env.cells.lookup x=some c->c≠it) (h3:∀p∈X.pn++pins,p.1≠it):Inv X pins σ H {s with heap:=h',toks:=t'}:=by
 have d:∀b u,H b=some u->b≠it:=λb u e z=>by rw[z,h] at e;cases e
 refine I.step (g':=s.gens) (d':=s.drawn) (ch:=[it]) (λb j=>?_) (λb o _ _ a e _=>k b o (λz=>a (by simp[z])) e) (λb o _ _ a e _=>⟨o.slots,k b o (λz=>a (by simp[z])) e⟩) (λ_ _ _ _ n=>n)
  (λb o a e=>⟨o,k b o (λz=>a (by simp[z])) e⟩) (λ_ _ e=>e) (λ_ _ _ e=>e) (λb B e=>⟨#[],by rw[e];simp⟩) (λm i=>?_) (λb u e=>?_) I.bare
 ·have e:b=it:=by simpa using j
  subst e;exact⟨h1,f,h2,h3⟩
 ·obtain⟨o,l,y,g,r⟩:=i;exact⟨o,l,y,k _ o (Ne.symm f) g,r⟩
 ·refine(I.hok b u e).stay (λc v a q=>k c v ?_ q) (λ_ q=>q) λ_ _ q=>q
  rcases a with z | z
  ·rw[z];exact d b u e
  ·exact d c _ z
theorem Inv.tok(I:Inv X pins σ H s)(t:Nat):Inv X pins σ H {s with toks:=t}:=I.un (h':=s.heap) (t':=t) Un.refl I.hok
theorem Inv.kept{t':Nat}(I:Inv X pins σ H s)(k:∀b u,s.heap.get? b=some u->h'.get? b=some u):Inv X pins σ H {s with heap:=h',toks:=t'}:=I.un (Un.kept k) (I.hok.kept k)
theorem Inv.laid{a:Addr}{o:HO}{t':Nat}(I:Inv X pins σ H s)(k:∀b u,s.heap.get? b=some u->h'.get? b=some u)(c:s.heap.objs.size<=a)(d:cF X.prog X.w (upd H a o) h' a o):
  Inv X pins σ (upd H a o) {s with heap:=h',toks:=t'}:=I.un (Un.laid k c (I.hok.fresh c)) (I.hok.laid k c d)
theorem Inv.write{x e:Addr}{o:HO}{t':Nat}(I:Inv X pins σ H s)(d:Mut (H x))(f:e=x\/H e=some (.own x))(k:∀b u,b≠e->s.heap.get? b=some u->h'.get? b=some u)(a:∃u,h'.get? e=some u)
  (c:cF X.prog X.w (upd H x o) h' x o):Inv X pins σ (upd H x o) {s with heap:=h',toks:=t'}:=I.un (Un.write d f k a) (I.hok.write d f k a c)
theorem Inv.pins_of{a:List (Addr×Obj)}(I:Inv X pins σ H s)(h:∀p∈a,s.heap.get? p.1=some p.2/\H p.1=none/\p.1≠X.env.locals/\p.1∉X.fs/\∀v,p.2.data≠.cell v):Inv X a σ H s :=
 ⟨I.ok,I.os,I.bare,I.base,I.loc,I.cell,I.free,I.freeC,λp b=>(zz.mp b).elim (λz=>I.pin p (jp _ z)) (h p),I.hok,I.len⟩
theorem HY{N:List Str}(hN:N.Nodup){i j:Nat}{x:Str}(a:N[i]?=some x)(b:N[j]?=some x):i=j:=by
 obtain⟨h1,d⟩:=zl.mp a;obtain⟨h2,c⟩:=zl.mp b;exact(List.getElem_inj hN).mp (d.trans c.symm)
theorem RG{M:Model}{A:Around}{E:Value->Shared->Prop}{i:Nat}{x:Str}{v:V}{u:Value}{Q:Unit->Shared->Prop}(I:Inv X pins σ H s)(hN:X.N.Nodup)(hi:X.N[i]?=some x)(B:Loc X.env.scope x)(r:RelV v u)
  (h:∀s',Inv X pins (σ.set i (some v)) H s'->(∃a,Heap.SameBut a s.heap s'.heap/\(a=X.env.locals\/X.env.cells.lookup x=some a))->Q () s') (hf:X.fn x=true\/X.env.scope.names.lookup x=some .local:=by first | exact .inl rfl | exact .inr rfl | assumption):wpAny M A (storeName X.env x u) Q E s:=by
 obtain⟨m,hn,hl⟩:=id I.loc
 have Y:(X.env.scope.kind == .class || (X.env.scope.kind == .module&&X.env.locals != X.env.globals))=false:=by rw[I.ok.kind];rfl
 have J:i<σ.length:=by rw[I.len];exact(zl.mp hi).1
 have cne:=I.cne
 have tracked:∀{a:Addr}{h':Heap},(∃o,s.heap.get? a=some o/\H a=none)->Heap.SameBut a s.heap h'->HOk X.prog X.w H h':=λ{a h'} ha f b ob e=>by
  obtain⟨_,_,C⟩:=ha
  refine(I.hok b ob e).stay (λc Z l q=>(f.2 c ?_).trans q) (λ_ q=>q) λ_ _ q=>q
  rintro rfl
  rcases l with rfl | l
  ·rw[C] at e;cases e
  ·rw[C] at l;cases l
 rcases B with G | G
 ·refine wpAny_storeName_local G hn (λh' hn' f=>?_) Y;obtain⟨oL,_,_,hoL,_⟩:=id hn;refine h _ ⟨I.ok,I.os,I.bare,⟨λb o e n O B=>?_,λb o e n O B=>?_,I.base.free,λb o e B=>?_,I.base.tups,I.base.frzs,I.base.tbls⟩,⟨_,hn',λj y v' g F e3=>?_⟩,λy c e=>?_,I.free,I.freeC,λp hp=>?_,tracked ⟨oL,hoL,I.free⟩ f,by simpa using I.len⟩ ⟨_,f,.inl rfl⟩
  ·exact(f.2 b (zy (zJ (zg e) I.ok.above))).trans (I.base.keep b o e n O B)
  ·obtain⟨sl,g⟩:=I.base.slot b o e n O B;exact⟨sl,(f.2 b (zy (zJ (zg e) I.ok.above))).trans g⟩
  ·obtain⟨o',g⟩:=I.base.there b o e B;exact⟨o',(f.2 b (zy (zJ (zg e) I.ok.above))).trans g⟩
  ·by_cases L:j=i
   ·subst L;rw[hi] at g;cases g;rw[zN J] at F;cases F;exact⟨u,r,.inl ⟨G,by simp⟩⟩
   ·rw[zm (Ne.symm L)] at F;obtain⟨u',r',q⟩:=hl j y v' g F e3;refine⟨u',r',?_⟩
    rcases q with⟨k,e⟩ | ⟨k,c,e,z⟩
    ·refine .inl ⟨k,?_⟩
     have:y≠x:=λe=>L (HY hN g (e ▸ hi))
     simp[this,e]
    ·exact .inr ⟨k,c,e,z.sameBut f (cne y c e)⟩
  ·obtain⟨Z,z⟩:=I.cell y c e;exact⟨Z,z.sameBut f (cne y c e)⟩
  ·obtain⟨e,n,ne,nf,d⟩:=I.pin p hp;exact⟨(f.2 p.1 ne).trans e,n,ne,nf,d⟩
 ·have P:X.fn x=true:=by
   rcases hf with z | z
   ·exact z
   ·rw[z] at G;cases G
  obtain⟨c,l⟩:=I.ok.has x (.inl G);obtain⟨Z,z⟩:=I.cell x c l;refine wpAny_storeName_cell I.ok.kind G l z (λh' U f=>?_);obtain⟨oc,R,W⟩:=id z;refine h {s with heap:=h'} ⟨I.ok,I.os,I.bare,⟨λb o e n O B=>?_,λb o e n O B=>?_,I.base.free,λb o e B=>?_,I.base.tups,I.base.frzs,I.base.tbls⟩,⟨m,hn.sameBut f (Ne.symm (cne x c l)),λj y v' g F e3=>?_⟩,λy c' e=>?_,I.free,I.freeC,λp hp=>?_,tracked ⟨oc,R,I.freeC x c l⟩ f,by simpa using I.len⟩ ⟨c,f,.inr l⟩
  ·exact(f.2 b (zy (zJ (zg e) (I.ok.cab x c P l)))).trans (I.base.keep b o e n O B)
  ·obtain⟨sl,g⟩:=I.base.slot b o e n O B;exact⟨sl,(f.2 b (zy (zJ (zg e) (I.ok.cab x c P l)))).trans g⟩
  ·obtain⟨o',g⟩:=I.base.there b o e B;exact⟨o',(f.2 b (zy (zJ (zg e) (I.ok.cab x c P l)))).trans g⟩
  ·by_cases L:j=i
   ·subst L;rw[hi] at g;cases g;rw[zN J] at F;cases F;exact⟨u,r,.inr ⟨.inl G,c,l,U⟩⟩
   ·rw[zm (Ne.symm L)] at F;obtain⟨u',r',q⟩:=hl j y v' g F e3;refine⟨u',r',?_⟩
    rcases q with q | ⟨k,c',e,z'⟩
    ·exact .inl q
    ·refine .inr ⟨k,c',e,z'.sameBut f ?_⟩;rintro rfl;exact L (HY hN g (I.ok.inj _ _ _ e l ▸ hi))
  ·by_cases T:c'=c
   ·subst T;exact⟨_,U⟩
   ·obtain⟨w2,z2⟩:=I.cell y c' e;exact⟨w2,z2.sameBut f T⟩
  ·obtain⟨e,n,ne,nf,d⟩:=I.pin p hp;refine⟨(f.2 p.1 ?_).trans e,n,ne,nf,d⟩;intro q;rw[q,R] at e;have q':oc=p.2:=zB e;exact d Z (by rw[<-q'];exact W)
theorem yN{M:Model}{A:Around}{E:Value->Shared->Prop}{i:Nat}{x:Str}{v:V}{u:Value}{Q:Unit->Shared->Prop}(I:Inv X pins σ H s)(hN:X.N.Nodup)(hi:X.N[i]?=some x)(b:Loc X.env.scope x)(r:RelV v u)
  (h:∀a,Inv X pins (σ.set i (some v)) H a->Q () a) (c:X.fn x=true\/X.env.scope.names.lookup x=some .local:=by first | exact .inl rfl | exact .inr rfl | assumption):wpAny M A (storeName X.env x u) Q E s :=
 RG I hN hi b r (λa I' _=>h a I') c
theorem Inv.call'{a:Shared}{ch:List Addr}(I:Inv X pins σ H s)(g:a.os=s.os)(u:Un (frs X.stack) ch H H' s.heap a.heap)(hok:HOk X.prog X.w H' a.heap)(h:AllBare a.gens)
  (d:∀b∈ch,(b∈X.ex\/X.s₀.heap.objs.size<=b)/\b≠X.env.locals/\(∀x c,X.env.cells.lookup x=some c->c≠b)/\∀p∈X.pn++pins,p.1≠b):Inv X pins σ H' a:=by
 obtain⟨h',g',d',t',f⟩:=a;have e:f=s.os:=g;subst e;exact I.call (g':=g') (t':=t') (d':=d') u hok h d
end
abbrev XK:=Value->Option Addr->Hp->Prop
abbrev St:=List (Option V)
abbrev VK:=V->Hp->Prop
abbrev TE:=St->Hp->VK->Prop
abbrev TT:=St->Hp->(Bool->Hp->Prop)->Prop
abbrev TA:=St->Hp->(List V->Hp->Prop)->Prop
structure Ends where
 nx:St->Hp->Prop
 rt:VK
 bk:St->Hp->Prop:=λ_ _=>False
 ct:St->Hp->Prop:=λ_ _=>False
abbrev TS:=Ends->St->Hp->Prop
def EP(X:Cx)(pins:List (Addr×Obj))(σ:St)(Q:VK)(u:Value)(b:Shared):Prop:=∃v a,Inv X pins σ a b/\RelV v u/\Q v a
def TP(X:Cx)(pins:List (Addr×Obj))(σ:St)(Q:Bool->Hp->Prop)(b:Bool)(c:Shared):Prop:=∃a,Inv X pins σ a c/\Q b a
def AP(X:Cx)(pins:List (Addr×Obj))(σ:St)(Q:List V->Hp->Prop)(us:List Value)(c:Shared):Prop:=∃a b,Inv X pins σ b c/\aU a us/\Q a b
def SP(X:Cx)(pins:List (Addr×Obj))(D:Ends)(f:Flow)(c:Shared):Prop :=
 match f with
 | .next=>∃a b,Inv X pins a b c/\D.nx a b
 | .brk=>∃a b,Inv X pins a b c/\D.bk a b
 | .cont=>∃a b,Inv X pins a b c/\D.ct a b
 | .ret u=>∃v a b,Inv X pins a b c/\RelV v u/\D.rt v b
def PE(X:Cx)(e:Expr)(t:TE):Prop :=
 ∀(pins:List (Addr×Obj)) (s:Shared) (σ:St) (H:Hp) (Q:VK),Inv X pins σ H s->t σ H Q->wpAny (model X.prog X.w) X.A (eval e X.env) (EP X pins σ Q) X.xe s
def PT(X:Cx)(e:Expr)(t:TT):Prop :=
 ∀(pins:List (Addr×Obj)) (s:Shared) (σ:St) (H:Hp) (Q:Bool->Hp->Prop),Inv X pins σ H s->t σ H Q->wpAny (model X.prog X.w) X.A (isTrue e X.env (eval e X.env)) (TP X pins σ Q) X.xe s
def PW(X:Cx)(e:Expr)(t:TT):Prop :=
 ∀(whole:Sem Value) (pins:List (Addr×Obj)) (s:Shared) (σ:St) (H:Hp) (Q:Bool->Hp->Prop),Inv X pins σ H s->t σ H Q->wpAny (model X.prog X.w) X.A (isTrue e X.env whole) (TP X pins σ Q) X.xe s
theorem PW.pt{X:Cx}{e:Expr}{t:TT}(h:PW X e t):PT X e t:=h _
def PA(X:Cx)(es:List Expr)(t:TA):Prop :=
 ∀(a:Pos) (pins:List (Addr×Obj)) (s:Shared) (σ:St) (H:Hp) (Q:List V->Hp->Prop),Inv X pins σ H s->t σ H Q->wpAny (model X.prog X.w) X.A (spliced (backTo a (starEach es X.env))) (AP X pins σ Q) X.xe s
def PS(X:Cx)(st:Stmt)(t:TS):Prop :=
 ∀(pins:List (Addr×Obj)) (s:Shared) (σ:St) (H:Hp) (D:Ends),Inv X pins σ H s->t D σ H->wpAny (model X.prog X.w) X.A (exec st X.env) (SP X pins D) X.xe s
def PSs(X:Cx)(st:List Stmt)(t:TS):Prop :=
 ∀(pins:List (Addr×Obj)) (s:Shared) (σ:St) (H:Hp) (D:Ends),Inv X pins σ H s->t D σ H->wpAny (model X.prog X.w) X.A (execs st X.env) (SP X pins D) X.xe s
theorem thn{α:Type}{t:Sem α}{Q b:α->Shared->Prop}{M:Model}{A:Around}{E:Value->Shared->Prop}{s:Shared}(h:wpAny M A t Q E s)(c:∀a s,Q a s->b a s):wpAny M A t b E s:=zT h c λ_ _ x=>x
section
variable {X:Cx}
def RJ(i:Nat):TE:=λσ H Q=>∃v,σ[i]?=some (some v)/\Q v H
def tC(v:V):TE:=λ_ H Q=>Q v H
theorem lL{i:Nat}{x:Str}{f:Pos}(hN:X.N[i]?=some x)(hv:Vis X.env.scope x)(hd:(x == ("__debug__":Str))=false:=by decide)(g:(x == ("__classdict__":Str))=false:=by decide):PE X (.Name x f) (RJ i):=by
 intro pins s σ H Q I h;obtain⟨v,e,h⟩:=h;obtain⟨m,n,y⟩:=I.loc;obtain⟨u,r,l⟩:=y i x v hN e hv;have d:EP X pins σ Q u s:=⟨v,H,I,r,h⟩
 rcases l with⟨b,q⟩ | ⟨b,c,j,a⟩
 ·exact wpAny_Name (wpAny_loadName_local I.ok.kind b n q d) hd
 ·rcases b with b | b
  ·exact wpAny_Name (wpAny_loadName_cell I.ok.kind b j a d) hd
  ·exact wpAny_Name (wpAny_loadName_free I.ok.kind b j a d g) hd
theorem H9{i j pos}:PE X (.Constant (.int i) j pos) (tC (.int i)):=λ_ _ _ H _ I h=>wpAny_Constant_int ⟨.int i,H,I.tok _,⟨_,rfl⟩,h⟩
theorem RK{b j pos}:PE X (.Constant (.bool b) j pos) (tC (.bl b)):=λ_ _ _ H _ I h=>Constant_bool ⟨.bl b,H,I,rfl,h⟩
theorem RL{j pos}:PE X (.Constant .none j pos) (tC .non):=λ_ _ _ H _ I h=>Constant_none ⟨.non,H,I,rfl,h⟩
theorem RM{x j pos}:PE X (.Constant (.str x) j pos) (tC (.str x)):=λ_ _ _ H _ I h=>Calls.Constant_str ⟨.str x,H,I.tok _,⟨_,rfl⟩,h⟩
def Gl(X:Cx)(x:Str):Prop:=X.env.kindOf x=some .globalImplicit
theorem yO{E:Value->Shared->Prop}{pins:List (Addr×Obj)}{s:Shared}{σ:St}{H:Hp}{x:Str}{u:Value}{a:Pos}{Q:Value->Shared->Prop}(I:Inv X pins σ H s)(c:Gl X x)(b:X.mg x=some u)(h:Q u s)
  (hd:(x == ("__debug__":Str))=false:=by decide):wpAny (model X.prog X.w) X.A (eval (.Name x a) X.env) Q E s :=
 Calls.Name_function_global I.ok.kind c (Calls.loadGlobal_global (by rw[I.ok.glob];exact I.mod.glob.keeps I.bk) b h) hd
theorem jA{E:Value->Shared->Prop}{pins:List (Addr×Obj)}{s:Shared}{σ:St}{H:Hp}{x:Str}{u:Value}{a:Pos}{Q:Value->Shared->Prop}(I:Inv X pins σ H s)(d:Gl X x)(c:X.mg x=none)(hv:bootBuiltins x=some u)(h:Q u s)
  (b:x≠"__name__":=by decide) (hd:(x == ("__debug__":Str))=false:=by decide):wpAny (model X.prog X.w) X.A (eval (.Name x a) X.env) Q E s:=by
 obtain⟨f,h1,h2⟩:=I.mod.blt;exact Calls.Name_function_global I.ok.kind d (Calls.loadGlobal_builtin (by rw[I.ok.glob];exact I.mod.glob.keeps I.bk) c (by rw[I.ok.blt];exact h1.keeps I.bk) ((h2 x b).trans hv) h) hd
theorem RN{x:Str}{v:V}{u:Value}{a:Pos}(c:Gl X x)(b:X.mg x=some u)(r:RelV v u)(hd:(x == ("__debug__":Str))=false:=by decide):PE X (.Name x a) (tC v):=
 λ_ _ _ H _ I h=>yO I c b ⟨v,H,I,r,h⟩ hd
theorem RP{x:Str}{v:V}{u:Value}{a:Pos}(d:Gl X x)(c:X.mg x=none)(hv:bootBuiltins x=some u)(r:RelV v u)(b:x≠"__name__":=by decide)(hd:(x == ("__debug__":Str))=false:=by decide):PE X (.Name x a) (tC v):=
 λ_ _ _ H _ I h=>jA I d c hv ⟨v,H,I,r,h⟩ b hd
variable {a b:Expr}{ta tb:TE}{pos:Pos}
def PC(X:Cx)(f:CmpOp)(a b:Expr)(t:TE):Prop :=
 ∀(pins:List (Addr×Obj)) (s:Shared) (σ:St) (H:Hp) (Q:VK),Inv X pins σ H s->t σ H Q ->
  wpAny (model X.prog X.w) X.A (eval a X.env) (λv d=>wpAny (model X.prog X.w) X.A (eval b X.env) (λu c=>wpAny (model X.prog X.w) X.A (compareOp f v u) (EP X pins σ Q) X.xe c) X.xe d) X.xe s
theorem RQ(b:Expr){c:CmpOp}(h:c≠.In)(h2:c≠.NotIn):behindInMarks c b=false:=by
 have f:(c == CmpOp.In)=false:=by cases c<;>first | rfl | exact absurd rfl h
 have d:(c == CmpOp.NotIn)=false:=by cases c<;>first | rfl | exact absurd rfl h2
 cases b<;>simp[behindInMarks,f,d]
def Ia(ta:TE):TE:=λσ H Q=>ta σ H λx c=>Q (.bl (decide (x=.non))) c
def Ib(ta:TE):TE:=λσ H Q=>ta σ H λx c=>Q (.bl (!decide (x=.non))) c
theorem RelV.none_iff{x:V}{v:Value}(r:RelV x v):(v == Value.none)=decide (x=.non):=by
 cases x with
 |non=>cases r;rfl
 |bl _=>cases r;rfl
 |int _=>obtain⟨t,rfl⟩:=r;rfl
 |str _=>obtain⟨t,rfl⟩:=r;rfl
 |byt _=>obtain⟨t,rfl⟩:=r;rfl
 |flt _=>obtain⟨t,rfl⟩:=r;rfl
 |ref _=>cases r;rfl
 |ty _=>cases r;rfl
theorem RT{j pos'}(c:PE X a ta):PC X .Is a (.Constant .none j pos') (Ia ta):=by
 intro pins s σ H Q I h
 refine thn (c pins s σ H _ I h) λv s1 ⟨x,H1,I1,r1,q1⟩=>?_
 exact Constant_none (is_none_gen ⟨.bl _,H1,I1,by rw[r1.none_iff];rfl,q1⟩)
theorem RV{j pos'}(c:PE X a ta):PC X .IsNot a (.Constant .none j pos') (Ib ta):=by
 intro pins s σ H Q I h
 refine thn (c pins s σ H _ I h) λv s1 ⟨x,H1,I1,r1,q1⟩=>?_
 exact Constant_none (isnot_none_gen ⟨.bl _,H1,I1,by rw[r1.none_iff];rfl,q1⟩)
def tB(t:TE):TT:=λσ H Q=>t σ H λx d=>∃c,x=.bl c/\Q c d
theorem yP{f:CmpOp}{t:TE}(h:PC X f a b t)(h1:behindInMarks f b=false:=by first | exact RQ _ (by decide) (by decide) | rfl):PT X (.Compare a [f] [b] pos) (tB t):=by
 intro pins s σ H Q I hw;refine wpAny_isTrue_Compare1 (thn (h pins s σ H _ I hw) λv i h1=>thn h1 λu g h2=>thn h2 λc s3 ⟨x,H1,I1,r1,q1⟩=>?_) h1;obtain⟨d,rfl,q⟩:=q1;cases r1;exact wpAny_truthy_bool ⟨H1,I1,q⟩
variable {tA tB':TT}{rest:List Expr}
def Ie(t u:TT):TT:=λσ H Q=>t σ H λc d=>if c=true then u σ d Q else Q false d
def tOr(t u:TT):TT:=λσ H Q=>t σ H λc d=>if c=true then Q true d else u σ d Q
def RW(t:TT):TT:=λσ H Q=>t σ H λc d=>Q (!c) d
theorem RX(d:PT X a tA):PW X (.BoolOp .And [a] pos) tA:=by
 intro f pins s σ H Q I h;refine isTrue_and (thn (d pins s σ H Q I h) λc g e=>?_)
 cases c with
 |true=>exact isTrue_and_nil e
 |false=>exact e
theorem RZ(d:PT X a tA):PW X (.BoolOp .Or [a] pos) tA:=by
 intro f pins s σ H Q I h;refine isTrue_or (thn (d pins s σ H Q I h) λc g e=>?_)
 cases c with
 |false=>exact isTrue_or_nil e
 |true=>exact e
theorem R0(f:PT X a tA)(hb:PW X (.BoolOp .And (b::rest) pos) tB'):PW X (.BoolOp .And (a::b::rest) pos) (Ie tA tB'):=by
 intro d pins s σ H Q I h;refine isTrue_and (thn (f pins s σ H _ I h) λc s1 ⟨H1,I1,q1⟩=>?_)
 cases c with
 |true=>exact hb d pins s1 σ H1 Q I1 q1
 |false=>exact⟨H1,I1,q1⟩
theorem R1(f:PT X a tA)(hb:PW X (.BoolOp .Or (b::rest) pos) tB'):PW X (.BoolOp .Or (a::b::rest) pos) (tOr tA tB'):=by
 intro d pins s σ H Q I h;refine isTrue_or (thn (f pins s σ H _ I h) λc s1 ⟨H1,I1,q1⟩=>?_)
 cases c with
 |true=>exact⟨H1,I1,q1⟩
 |false=>exact hb d pins s1 σ H1 Q I1 q1
theorem R3(d:PT X a tA):PT X (.UnaryOp .Not a pos) (RW tA):=by
 intro pins s σ H Q I h;exact isTrue_not (d pins s σ H (λc f=>Q (!c) f) I h)
def R4(ta tb:TE):TE:=λσ H Q=>ta σ H λx d=>∃c,x=.bl c/\if c=true then tb σ d Q else Q (.bl false) d
def R5(ta tb:TE):TE:=λσ H Q=>ta σ H λx d=>∃c,x=.bl c/\if c=true then Q (.bl true) d else tb σ d Q
def R6(ta:TE):TE:=λσ H Q=>ta σ H λx d=>∃c,x=.bl c/\Q (.bl (!c)) d
theorem R7{op}{t:TE}(h:PE X a t):PE X (.BoolOp op [a] pos) t:=λpins s σ H Q I hw=>BoolOp_one (h pins s σ H Q I hw)
theorem R8(f:PE X a ta)(hb:PE X (.BoolOp .And (b::rest) pos) tb):PE X (.BoolOp .And (a::b::rest) pos) (R4 ta tb):=by
 intro pins s σ H Q I h;refine BoolOp_and (thn (f pins s σ H _ I h) λv s1 ⟨x,H1,I1,r1,d⟩=>?_);obtain⟨c,rfl,d⟩:=d;cases r1;refine wpAny_truthy_bool ?_
 cases c with
 |true=>exact hb pins s1 σ H1 Q I1 d
 |false=>exact⟨.bl false,H1,I1,rfl,d⟩
theorem R9(f:PE X a ta)(hb:PE X (.BoolOp .Or (b::rest) pos) tb):PE X (.BoolOp .Or (a::b::rest) pos) (R5 ta tb):=by
 intro pins s σ H Q I h;refine BoolOp_or (thn (f pins s σ H _ I h) λv s1 ⟨x,H1,I1,r1,d⟩=>?_);obtain⟨c,rfl,d⟩:=d;cases r1;refine wpAny_truthy_bool ?_
 cases c with
 |false=>exact hb pins s1 σ H1 Q I1 d
 |true=>exact⟨.bl true,H1,I1,rfl,d⟩
theorem Sd(f:PE X a ta):PE X (.UnaryOp .Not a pos) (R6 ta):=by
 intro pins s σ H Q I h;refine UnaryOp_ (thn (f pins s σ H _ I h) λv s1 ⟨x,H1,I1,r1,d⟩=>?_);obtain⟨c,rfl,d⟩:=d;cases r1;exact not_of (wpAny_truthy_bool ⟨.bl (!c),H1,I1,rfl,d⟩)
def tIf(t:TT)(ta tb:TE):TE:=λσ H Q=>t σ H λc d=>if c=true then ta σ d Q else tb σ d Q
theorem Sg{c:Expr}(f:PT X c tA)(g:PE X a ta)(hb:PE X b tb):PE X (.IfExp c a b pos) (tIf tA ta tb):=by
 intro pins s σ H Q I h;refine wpAny_IfExp (thn (f pins s σ H _ I h) λd s1 ⟨H1,I1,q1⟩=>?_)
 cases d with
 |true=>exact g pins s1 σ H1 Q I1 q1
 |false=>exact hb pins s1 σ H1 Q I1 q1
end
def SqL(K:PySem.W.Frag)(H:Hp)(a:Addr)(xs:List V):Prop :=
 Rd H a (.lst xs) \/
  ∃(o:Obj) (b:Array Value) (n:Nat),K.lookup a=some o/\o.cls=.type "list"/\o.dict=none/\o.data=.seq b n/\b.size<=sizeLine/\aU xs b.toList
def SqT(K:PySem.W.Frag)(H:Hp)(a:Addr)(xs:List V):Prop :=
 Rd H a (.tup xs) \/
  ∃(o:Obj) (b:Array Value) (n:Nat),K.lookup a=some o/\o.cls=.type "tuple"/\o.data=.seq b n/\b.size<=sizeLine/\aU xs b.toList
def Sh:Value->Option V
 | .none=>some .non
 | .bool b=>some (.bl b)
 | .int i _=>some (.int i)
 | .str x _=>some (.str x)
 | .bytes b _=>some (.byt b)
 | .float b _=>some (.flt b)
 | .ref a=>some (.ref a)
 | .type n=>some (.ty n)
 | _=>none
theorem RelV.abs{x:V}{u:Value}(r:RelV x u):Sh u=some x:=by
 cases x with
 |non=>cases r;rfl
 |bl _=>cases r;rfl
 |int _=>obtain⟨t,rfl⟩:=r;rfl
 |str _=>obtain⟨t,rfl⟩:=r;rfl
 |byt _=>obtain⟨t,rfl⟩:=r;rfl
 |flt _=>obtain⟨t,rfl⟩:=r;rfl
 |ref _=>cases r;rfl
 |ty _=>cases r;rfl
theorem RelV.inj{x y:V}{u:Value}(r:RelV x u)(q:RelV y u):x=y:=zB (r.abs.symm.trans q.abs)
theorem aU.inj:∀{xs ys:List V}{us:List Value},aU xs us->aU ys us->xs=ys
 | _,_,_,.nil,.nil=>rfl
 | _,_,_,.cons r t,.cons r' t'=>by rw[r.inj r',aU.inj t t']
section
variable {X:Cx}{pins:List (Addr×Obj)}{σ:St}{H:Hp}{s:Shared}{a:Addr}{xs ys:List V}
theorem Inv.list(I:Inv X pins σ H s)(h:SqL X.K H a xs):∃its:List Value,aU xs its/\PlainL s.heap a its.toArray/\xs.length<=sizeLine:=by
 rcases h with h | ⟨o,its,n,c,d,hd,b,f,r⟩
 ·obtain⟨z,its,n,r,e⟩:=h.ok I.hok;exact⟨its,r,⟨_,n,e,rfl,rfl,rfl⟩,z⟩
 ·refine⟨its.toList,r,⟨o,n,I.kIn a o c,d,hd,by simpa using b⟩,?_⟩;have e:=r.length;simp only[Array.length_toList] at e;omega
theorem Inv.tuple(I:Inv X pins σ H s)(h:SqT X.K H a xs):∃its:List Value,aU xs its/\IsTup s.heap a its.toArray/\xs.length<=sizeLine:=by
 rcases h with h | ⟨o,its,n,c,d,b,f,r⟩
 ·obtain⟨z,its,r,p⟩:=h.ok I.hok;exact⟨its,r,p,z⟩
 ·refine⟨its.toList,r,⟨o,I.kIn a o c,d,n,by simpa using b⟩,?_⟩;have e:=r.length;simp only[Array.length_toList] at e;omega
theorem Inv.list_inj(I:Inv X pins σ H s)(h:SqL X.K H a xs)(h':SqL X.K H a ys):xs=ys:=by
 obtain⟨c,r,⟨o,n,e,_,_,d⟩,_⟩:=I.list h;obtain⟨b,i,⟨l,m,f,_,_,g⟩,_⟩:=I.list h';rw[e] at f;cases f;rw[d] at g
 injection g with j _
 have:c=b:=by simpa using congrArg Array.toList j
 subst this;exact r.inj i
theorem Inv.tuple_inj(I:Inv X pins σ H s)(h:SqT X.K H a xs)(h':SqT X.K H a ys):xs=ys:=by
 obtain⟨c,r,⟨o,e,_,n,d⟩,_⟩:=I.tuple h;obtain⟨b,i,⟨l,f,_,m,g⟩,_⟩:=I.tuple h';rw[e] at f;cases f;rw[d] at g
 injection g with j _
 have:c=b:=by simpa using congrArg Array.toList j
 subst this;exact r.inj i
end
abbrev Cx.wish(X:Cx)(E:Value->Shared->Prop):Cx:={X with xe:=E}
abbrev Cx.nox(X:Cx):Cx:=X.wish λ_ _=>False
theorem Cx.Ok.wish{X:Cx}(ok:X.Ok)(E:Value->Shared->Prop):(X.wish E).Ok :=
 ⟨ok.mod,ok.kind,ok.glob,ok.blt,ok.above,ok.inj,ok.has,ok.cab,ok.hd,ok.frames,ok.stk,ok.exf,ok.bs,ok.bsz,ok.noex,ok.exfs,ok.funs,ok.frf⟩
theorem Cx.Ok.unwish{X:Cx}{E:Value->Shared->Prop}(ok:(X.wish E).Ok):X.Ok :=
 ⟨ok.mod,ok.kind,ok.glob,ok.blt,ok.above,ok.inj,ok.has,ok.cab,ok.hd,ok.frames,ok.stk,ok.exf,ok.bs,ok.bsz,ok.noex,ok.exfs,ok.funs,ok.frf⟩
section
variable {X:Cx}{pins:List (Addr×Obj)}{σ:St}{H:Hp}{s:Shared}{E:Value->Shared->Prop}
theorem Inv.wish(I:Inv X pins σ H s)(E:Value->Shared->Prop):Inv (X.wish E) pins σ H s:=⟨I.ok.wish E,I.os,I.bare,I.base,I.loc,I.cell,I.free,I.freeC,I.pin,I.hok,I.len⟩
theorem Inv.unwish(I:Inv (X.wish E) pins σ H s):Inv X pins σ H s:=⟨I.ok.unwish,I.os,I.bare,I.base,I.loc,I.cell,I.free,I.freeC,I.pin,I.hok,I.len⟩
theorem SP.unwish{D:Ends}{f:Flow}{c:Shared}(h:SP (X.wish E) pins D f c):SP X pins D f c:=by
 cases f with
 |next=>obtain⟨a,b,I,q⟩:=h;exact⟨a,b,I.unwish,q⟩
 |brk=>obtain⟨a,b,I,q⟩:=h;exact⟨a,b,I.unwish,q⟩
 |cont=>obtain⟨a,b,I,q⟩:=h;exact⟨a,b,I.unwish,q⟩
 |ret u=>obtain⟨v,a,b,I,r,q⟩:=h;exact⟨v,a,b,I.unwish,r,q⟩
theorem PSs.nox{st:List Stmt}{t:TS}(h:PSs X.nox st t):PSs X st t:=λpins s σ H D I hw =>
 zT (h pins s σ H D (I.wish _) hw) (λ_ _ q=>q.unwish) λ_ _ z=>False.elim z
end
section
variable {X:Cx}{st:Stmt}{rest:List Stmt}{t u:TS}{e:Expr}{te:TE}{pos:Pos}
def Sq:TS:=λD σ H=>D.nx σ H
def Ss(t u:TS):TS:=λD σ H=>t {D with nx:=u D} σ H
theorem Su:PSs X [] Sq:=λ_ _ σ H _ I h=>wpAny_execs_nil ⟨σ,H,I,h⟩
theorem Sw(h1:PS X st t)(h2:PSs X rest u):PSs X (st::rest) (Ss t u):=by
 intro pins s σ H D I h;refine wpAny_execs_cons (thn (h1 pins s σ H {D with nx:=u D} I h) λf b q=>?_)
 cases f with
 |next =>
  obtain⟨a,d,c,q⟩:=q;exact h2 pins b a d D c q
 |ret v=>exact q
 |brk=>exact q
 |cont=>exact q
theorem Sx(h1:PS X st t):PSs X [st] t:=by
 intro pins s σ H D I h;refine wpAny_execs_cons (thn (h1 pins s σ H D I h) λf a q=>?_)
 cases f with
 |next=>exact wpAny_execs_nil q
 |ret v=>exact q
 |brk=>exact q
 |cont=>exact q
def Sy:TS:=λD σ H=>D.bk σ H
theorem SJ:PS X (.Break pos) Sy:=λ_ _ σ H _ I h=>wpAny_Break ⟨σ,H,I,h⟩
theorem Inv.quiet{pins:List (Addr×Obj)}{σ:St}{H:Hp}{s:Shared}(I:Inv X pins σ H s):interactive X.env=false:=by simp[interactive,I.ok.kind]
def SM(te:TE):TS:=λD σ H=>te σ H λ_ a=>D.nx σ a
theorem rH(b:PE X e te)(a:swapsWith e none pos.line X.env=pure false:=by rfl):PS X (.Expr e pos) (SM te):=by
 intro pins s σ H D I h;exact wpAny_Expr_any (thn (b pins s σ H _ I h) λv s1 ⟨x,H1,I1,r1,q1⟩=>⟨σ,H1,I1,q1⟩) I.quiet a
def SN(te:TE):TS:=λD σ H=>te σ H D.rt
theorem Ig(a:PE X e te):PS X (.Return (some e) pos) (SN te):=by
 intro pins s σ H D I h;exact wpAny_Return_some (thn (a pins s σ H _ I h) λv s1 ⟨x,H1,I1,r1,q1⟩=>⟨x,σ,H1,I1,r1,q1⟩)
def SQ(c:TT)(t u:TS):TS:=λD σ H=>c σ H λb a=>if b=true then t D σ a else u D σ a
theorem S8{c:Expr}{a b:List Stmt}{f:TT}(g:PT X c f)(i:PSs X a t)(hb:PSs X b u):PS X (.If c a b pos) (SQ f t u):=by
 intro pins s σ H D I h;refine wpAny_If (thn (g pins s σ H _ I h) λd s1 ⟨H1,I1,q1⟩=>?_)
 cases d with
 |true=>exact i pins s1 σ H1 D I1 q1
 |false=>exact hb pins s1 σ H1 D I1 q1
def S9:TS:=λ_ _ _=>False
theorem Tc:PS X st S9:=λ_ _ _ _ _ _ h=>h.elim
end
abbrev TG:=V->St->Hp->(St->Hp->Prop)->Prop
abbrev TGs:=List V->St->Hp->(St->Hp->Prop)->Prop
def PG(X:Cx)(target:Expr)(t:TG):Prop :=
 ∀(pins:List (Addr×Obj)) (s:Shared) (σ:St) (H:Hp) (v:V) (u:Value) (Q:St->Hp->Prop),Inv X pins σ H s->RelV v u->t v σ H Q ->
  wpAny (model X.prog X.w) X.A (assign target X.env u) (λ_ c=>∃a b,Inv X pins a b c/\Q a b) X.xe s
def PGs(X:Cx)(ts:List Expr)(t:TGs):Prop :=
 ∀(pins:List (Addr×Obj)) (s:Shared) (σ:St) (H:Hp) (b:List V) (c:List Value) (Q:St->Hp->Prop),Inv X pins σ H s->aU b c->t b σ H Q ->
  wpAny (model X.prog X.w) X.A (assignInOrder ((assignEach ts X.env).map (·.2)) c) (λ_ f=>∃a d,Inv X pins a d f/\Q a d) X.xe s
section
variable {X:Cx}{pos:Pos}
def rJ(i:Nat):TG:=λv σ H Q=>Q (σ.set i (some v)) H
theorem Td{i:Nat}{x:Str}(hN:X.N.Nodup)(hi:X.N[i]?=some x)(a:Loc X.env.scope x)(b:X.fn x=true\/X.env.scope.names.lookup x=some .local:=by first | exact .inl rfl | exact .inr rfl | assumption):PG X (.Name x pos) (rJ i):=by
 intro pins s σ H v u Q I r h;exact wpAny_assign_Name (yN I hN hi a r (λd c=>⟨_,H,c,h⟩) b)
def Te:TGs:=λa σ H Q=>a=[]/\Q σ H
def Tf(t:TG)(u:TGs):TGs:=λb σ H Q=>∃v r,b=v::r/\t v σ H λa c=>u r a c Q
theorem Tg:PGs X [] Te:=by
 intro pins s σ H a b Q I r h;obtain⟨e,h⟩:=h;subst e;cases r;exact assignInOrder_nil ⟨σ,H,I,h⟩
theorem Th{e:Expr}{es:List Expr}{t:TG}{u:TGs}(h1:PG X e t)(h2:PGs X es u)
  (a:(assignEach (e::es) X.env).map (·.2)=assign e X.env::(assignEach es X.env).map (·.2):=by rfl):PGs X (e::es) (Tf t u):=by
 intro pins s σ H c f Q I r h;obtain⟨v,d,b,h⟩:=h;subst b
 cases r with
 |cons r rr =>
  rw[a];refine assignInOrder_cons (thn (h1 pins s σ H _ _ _ I r h) λ_ s1 ⟨σ1,H1,I1,q1⟩=>?_);exact h2 pins s1 σ1 H1 _ _ Q I1 rr q1
def Ti(K:PySem.W.Frag)(n:Nat)(t:TGs):TG:=λv σ H Q=>∃a b,v=.ref a/\SqT K H a b/\b.length=n/\t b σ H Q
theorem Tj{es:List Expr}{k:Nat}{t:TGs}{n:Nat}(q:X.calm=true)(h:PGs X es t)
  (l:(assignEach es X.env).length=n:=by rfl) (c:(assignEach es X.env).findIdx? (·.1)=none:=by rfl):PG X (.Tuple es k pos) (Ti X.K n t):=by
 intro pins s σ H v u Q I r hw;obtain⟨a,f,y,j,m,hw⟩:=hw;subst y;cases r;obtain⟨B,d,i,C⟩:=I.tuple j
 refine assign_Tuple_tuple (I.ok.hd q) i (by simp[l,<-m,d.length]) c λx g=>?_
 have z:Inv X pins σ H {s with heap:=x}:=I.kept (t':=s.toks) λb o e=>g b o (zy (zg e)) e
 exact h pins _ σ H f _ Q z (by simpa using d) hw
def rK(a:TE)(g:TG):TS:=λD σ H=>a σ H λx b=>g x σ b D.nx
theorem Tn{a e:Expr}{b:TE}{g:TG}(f:PE X e b)(d:PG X a g)(c:swapsWithSole [a] e pos.line X.env=pure false:=by rfl)(hw:swappedStores [a] e X.env=pure none:=by rfl)
  (h1:(assignEach [a] X.env).map (·.2)=[assign a X.env]:=by rfl):PS X (.Assign [a] e pos) (rK b g):=by
 intro pins s σ H D I h;refine wpAny_Assign_stores (thn (f pins s σ H _ I h) λv s1 ⟨x,H1,I1,r1,q1⟩=>?_) c hw;rw[h1]
 exact thn (d pins s1 σ H1 x v _ I1 r1 q1) λ_ i q=>q
theorem Ih{i:Nat}{x:Str}{e:Expr}{a:TE}{pos':Pos}(hN:X.N.Nodup)(hi:X.N[i]?=some x)(b:Loc X.env.scope x)(f:PE X e a)(c:swapsWith e (some (.Name x pos')) pos.line X.env=pure false:=by rfl)(d:X.fn x=true\/X.env.scope.names.lookup x=some .local:=by first | exact .inl rfl | exact .inr rfl | assumption):
  PS X (.Assign [.Name x pos'] e pos) (rK a (rJ i)):=by
 intro pins s σ H D I h;refine wpAny_Assign_Name (thn (f pins s σ H _ I h) λv s1 ⟨y,H1,I1,r1,q1⟩=>?_) c;exact yN I1 hN hi b r1 (λj g=>⟨_,H1,g,q1⟩) d
end
section
variable {X:Cx}{pos:Pos}
def Ii(c:TT)(h:TS):TS:=λD σ H=>∃W:Nat->St->Hp->Prop,(∃m,W m σ H)/\∀m σ H,W m σ H ->
 c σ H λb f=>if b=true then ∃N:St->Hp->Prop,(∀a g,N a g->∃d,d<m/\W d a g)/\h {D with nx:=N,ct:=N,bk:=D.nx} σ f else D.nx σ f
theorem Tp{c:Expr}{body:List Stmt}{x:TT}{y:TS}(z:PassesOwn (model X.prog X.w) X.A X.env X.xe)(G:PT X c x)(hb:PSs X body y):PS X (.While c body [] pos) (Ii x y):=by
 intro pins s σ H D I h;obtain⟨W,⟨F,C⟩,turn⟩:=h;refine wpAny_While (codeAny_whileLoop (λn E=>∃g B,Inv X pins g B E/\W n g B) ?_ F ⟨σ,H,I,C⟩);rintro n s1 ⟨σ1,H1,I1,w1⟩;refine wpAny_passesOwn z (thn (G pins s1 σ1 H1 _ I1 (turn n σ1 H1 w1)) λb s2 ⟨H2,I2,j⟩=>?_)
 cases b with
 |true =>
  obtain⟨N,hN,j⟩:=j;rw[if_pos rfl];refine wpAny_passesOwn z (thn (hb pins s2 σ1 H2 _ I2 j) λf J i=>?_)
  cases f with
  |next =>
   obtain⟨a,d,u,m⟩:=i;obtain⟨q,r,l⟩:=hN a d m;exact⟨q,r,a,d,u,l⟩
  |cont =>
   obtain⟨a,d,u,m⟩:=i;obtain⟨q,r,l⟩:=hN a d m;exact⟨q,r,a,d,u,l⟩
  |brk=>exact i
  |ret v=>exact i
 |false =>
  rw[if_neg zh];exact wpAny_execs_nil ⟨σ1,H2,I2,j⟩
end
structure It where
 go:Nat->Hp->Prop
 yld:Nat->Hp->V->Hp->Prop
 stop:Nat->Hp->Prop
def gR(X:Cx)(pins:List (Addr×Obj))(H:Hp)(b:Addr):Prop :=
 H b=none/\b≠X.env.locals/\b∉X.fs/\(b∈X.ex\/X.s₀.heap.objs.size<=b)/\(∀x c,X.env.cells.lookup x=some c->c≠b)/\∀p∈X.pn++pins,p.1≠b
theorem Inv.fpOk{X:Cx}{pins:List (Addr×Obj)}{σ:St}{H a:Hp}{s:Shared}{b:Addr}(I:Inv X pins σ H s)(hb:s.heap.objs.size<=b)(f:a b=none):gR X pins a b:=by
 refine⟨f,Nat.ne_of_gt (zJ I.lt hb),I.nofs hb,.inr (zM I.sz hb),λx c e z=>?_,λp d z=>?_⟩
 ·obtain⟨v,q⟩:=I.cell x c e;exact absurd (zJ q.lt (by rw[z];exact hb)) (zQ _)
 ·exact absurd (zJ (zg (I.pin p d).1) (by rw[z];exact hb)) (zQ _)
structure Turn(P:Program)(w:World)(K:PySem.W.Frag)(tg:Expr)(J:It)(fp:List Addr)(it:Addr)(tn:Nat->Heap->Prop):Prop where
 mem:it∈fp
 obj:∀i h,tn i h->∀b∈fp,∃o,h.get? b=some o/\∀v,o.data≠.cell v
 keep:∀i h h',tn i h->(∀b∈fp,∀o,h.get? b=some o->h'.get? b=some o)->tn i h'
 item:∀(X:Cx),X.prog=P->X.w=w->X.K=K->X.calm=true->∀(i:Nat) (pins:List (Addr×Obj)) (s:Shared) (σ:St) (H:Hp) (E:Value->Shared->Prop),Inv X pins σ H s->(∀b∈fp,gR X pins H b)->tn i s.heap->J.go i H ->
  wpAny (model P w) X.A (pyNext (.ref it)) (λr s1=>∃u,r=some u /\
   wpAny (model P w) X.A (letOwnedTupleGo tg (.ref it) u) (λ_ s2=>∃x H',Inv X pins σ H' s2/\RelV x u/\J.yld i H x H'/\tn (i+1) s2.heap/\∀b∈fp,H' b=none) E s1) E s
 done:∀(X:Cx),X.prog=P->X.w=w->X.K=K->X.calm=true->∀(i:Nat) (pins:List (Addr×Obj)) (s:Shared) (σ:St) (H:Hp) (E:Value->Shared->Prop),Inv X pins σ H s->(∀b∈fp,gR X pins H b)->tn i s.heap->J.stop i H ->
  wpAny (model P w) X.A (pyNext (.ref it)) (λr s1=>r=none/\Inv X pins σ H s1) E s
 self:∀(A:Around) (i:Nat) (s:Shared) (Q:Value->Shared->Prop) (E:Value->Shared->Prop),tn i s.heap->Q (.ref it) s->wpAny (model P w) A (pyIter (.ref it)) Q E s
abbrev TI:=St->Hp->(It->Hp->Prop)->Prop
def PIE(X:Cx)(pins:List (Addr×Obj))(σ:St)(h:Expr)(R:It->Hp->Prop)(c:Value)(f:Shared):Prop :=
 ∃(it:Addr) (g:List Addr) (d:Nat->Heap->Prop) (J:It) (a:Hp),c=.ref it/\Inv X pins σ a f/\Turn X.prog X.w X.K h J g it d/\d 0 f.heap/\(∀b∈g,gR X pins a b)/\R J a
def PI(X:Cx)(b iter:Expr)(a:TI):Prop :=
 ∀(pins:List (Addr×Obj)) (s:Shared) (σ:St) (H:Hp) (R:It->Hp->Prop),Inv X pins σ H s->a σ H R ->
  wpAny (model X.prog X.w) X.A (eval iter X.env) (λv c=>wpAny (model X.prog X.w) X.A (pyIter v) (PIE X pins σ b R) X.xe c) X.xe s
theorem m8{M:Model}{A:Around}{E:Value->Shared->Prop}{s:Shared}{b:Expr}{it:Addr}{u:Value}{o:Obj}{n:String}{vs:Array Value}{Q:Unit->Shared->Prop}(c:s.heap.get? it=some o)(f:o.cls=.type n)(hd:o.data=.fields vs)
  (d:["enumerate","zip","dict_itemiterator","dict_reverseitemiterator","odict_iterator","itertools.zip_longest","itertools.pairwise"].contains n=false) (a:Q () s):wpAny M A (letOwnedTupleGo b (.ref it) u) Q E s:=by
 unfold letOwnedTupleGo
 cases b<;>first
  | exact zc a
  | (cases u<;>first
    | exact zc a
    | (refine za (wpAny_load c ?_)
       rw[f,hd];show wpAny M A (if(["enumerate","zip","dict_itemiterator","dict_reverseitemiterator","odict_iterator","itertools.zip_longest","itertools.pairwise"].contains n&&vs[0]? == some (rawInt _))=true then _ else _) Q E s;rw[if_neg (by intro h;rw[d,Bool.false_and] at h;cases h)]
       exact zc a))
def Itl(K:PySem.W.Frag)(a:Addr):It :=
 ⟨λi H=>∃b x,SqL K H a b/\b[i]?=some x,λi H x c=>c=H/\∀b,SqL K H a b->b[i]?=some x,λi H=>∃b,SqL K H a b/\b.length<=i⟩
def Itt(K:PySem.W.Frag)(a:Addr):It :=
 ⟨λi H=>∃b x,SqT K H a b/\b[i]?=some x,λi H x c=>c=H/\∀b,SqT K H a b->b[i]?=some x,λi H=>∃b,SqT K H a b/\b.length<=i⟩
def Itr(lo:Int)(n:Nat):It:=⟨λi _=>i<n,λi H x a=>a=H/\x=.int (lo+i),λi _=>n<=i⟩
theorem Tq{P:Program}{w:World}{K:PySem.W.Frag}{tg:Expr}(a it:Addr):Turn P w K tg (Itl K a) [it] it (λi h=>h.IsListIter it a i) where
 mem:=by simp
 obj:=λi h st b hb=>by
  have e:b=it:=by simpa using hb
  subst e;obtain⟨o,e,c,d⟩:=st;exact⟨o,e,λv z=>by rw[d] at z;cases z⟩
 keep:=λi h h' st k=>st.at λo e=>k it (by simp) o e
 item:=by
  intro X hP hw hK hc i pins s σ H E I hf st hg;subst hP hw hK;obtain⟨xs,x,hq,hx⟩:=hg;obtain⟨its,rv,p,hz⟩:=I.list hq;obtain⟨u,hu,ru⟩:=rv.get hx;obtain⟨f0,f1,f2,f3,f4,f5⟩:=hf it (by simp)
  refine wpAny_pyNext_list_item st p.isList (x:=u) (by simpa using hu) λh' st' sb=>?_
  have I1:Inv X pins σ H {s with heap:=h'}:=I.turned (t':=s.toks) (λb o hb e=>(sb.2 b hb).trans e) f0 f1 f3 f4 f5;obtain⟨o,e,c,d⟩:=id st';exact⟨u,rfl,m8 (s:={s with heap:=h'}) e c d (by decide) ⟨x,H,I1,ru,⟨rfl,λys hy=>by rw[I.list_inj hy hq];exact hx⟩,st',λb hb=>(hf b hb).1⟩⟩
 done:=by
  intro X hP hw hK hc i pins s σ H E I hf st hg;subst hP hw hK;obtain⟨xs,hq,hx⟩:=hg;obtain⟨its,rv,p,hz⟩:=I.list hq;obtain⟨f0,f1,f2,f3,f4,f5⟩:=hf it (by simp);have hl:=rv.length
  exact wpAny_pyNext_list_end (I.ok.hd hc) st p.isList (by simp;omega) λh' eb=>⟨rfl,I.turned (t':=s.toks) (λb o hb e=>eb b o hb e) f0 f1 f3 f4 f5⟩
 self:=λ_ _ _ _ _ st h=>wpAny_pyIter_listiter st h
theorem Tt{P:Program}{w:World}{K:PySem.W.Frag}{tg:Expr}(a it:Addr):Turn P w K tg (Itt K a) [it] it (λi h=>h.IsTupleIter it a i) where
 mem:=by simp
 obj:=λi h st b hb=>by
  have e:b=it:=by simpa using hb
  subst e;obtain⟨o,e,c,d⟩:=st;exact⟨o,e,λv z=>by rw[d] at z;cases z⟩
 keep:=λi h h' st k=>st.at λo e=>k it (by simp) o e
 item:=by
  intro X hP hw hK hc i pins s σ H E I hf st hg;subst hP hw hK;obtain⟨xs,x,hq,hx⟩:=hg;obtain⟨its,rv,p,hz⟩:=I.tuple hq;obtain⟨u,hu,ru⟩:=rv.get hx;obtain⟨f0,f1,f2,f3,f4,f5⟩:=hf it (by simp)
  refine wpAny_pyNext_tuple_item st (show s.heap.IsTuple a its.toArray from p) (x:=u) (by simpa using hu) λh' st' sb=>?_
  have I1:Inv X pins σ H {s with heap:=h'}:=I.turned (t':=s.toks) (λb o hb e=>(sb.2 b hb).trans e) f0 f1 f3 f4 f5;obtain⟨o,e,c,d⟩:=id st';exact⟨u,rfl,m8 (s:={s with heap:=h'}) e c d (by decide) ⟨x,H,I1,ru,⟨rfl,λys hy=>by rw[I.tuple_inj hy hq];exact hx⟩,st',λb hb=>(hf b hb).1⟩⟩
 done:=by
  intro X hP hw hK hc i pins s σ H E I hf st hg;subst hP hw hK;obtain⟨xs,hq,hx⟩:=hg;obtain⟨its,rv,p,hz⟩:=I.tuple hq;obtain⟨f0,f1,f2,f3,f4,f5⟩:=hf it (by simp);have hl:=rv.length
  exact wpAny_pyNext_tuple_end (I.ok.hd hc) st (show s.heap.IsTuple a its.toArray from p) (by simp;omega) λh' eb=>⟨rfl,I.turned (t':=s.toks) (λb o hb e=>eb b o hb e) f0 f1 f3 f4 f5⟩
 self:=λ_ _ _ _ _ st h=>wpAny_pyIter_tupleiter st h
theorem Tu{P:Program}{w:World}{K:PySem.W.Frag}{tg:Expr}(it:Addr)(lo:Int)(n:Nat):Turn P w K tg (Itr lo n) [it] it (λi h=>IsRangeIter h it (lo+(i:Nat) * 1) ((n:Int) - (i:Nat)) 1) where
 mem:=by simp
 obj:=λi h st b hb=>by
  have e:b=it:=by simpa using hb
  subst e
  exact⟨_,st,λv z=>by
   have z':Data.fields _=Data.cell v:=z
   cases z'⟩
 keep:=λi h h' st k=>k it (by simp) _ st
 item:=by
  intro X hP hw hK hc i pins s σ H E I hf st hg;subst hP hw hK;obtain⟨f0,f1,f2,f3,f4,f5⟩:=hf it (by simp);have W:=Walks.range (prog:=X.prog) (w:=X.w) (I.ok.hd hc) it lo 1 n
  refine W.item i s _ _ hg st λv h' tk hv st' kk=>?_
  obtain⟨t,rfl⟩:=hv;have I1:Inv X pins σ H {s with heap:=h',toks:=tk}:=I.turned (λb o hb e=>kk b o (by simpa using hb) e) f0 f1 f3 f4 f5;refine⟨_,rfl,m8 (s:={s with heap:=h',toks:=tk}) (n:="range_iterator") st' rfl rfl (by decide) ⟨.int (lo+i),H,I1,⟨t,?_⟩,⟨rfl,rfl⟩,st',λb hb=>(hf b hb).1⟩⟩;rw[Int.mul_one]
 done:=by
  intro X hP hw hK hc i pins s σ H E I hf st hg;subst hP hw hK;obtain⟨f0,f1,f2,f3,f4,f5⟩:=hf it (by simp)
  exact wpAny_pyNext_range_end (I.ok.hd hc) st (by have:n<=i:=hg;omega) λh' eb=>⟨rfl,I.turned (t':=s.toks) (λb o hb e=>eb b o hb e) f0 f1 f3 f4 f5⟩
 self:=λ_ _ _ _ _ st h=>wpAny_pyIter_rangeiter st h
section
variable {X:Cx}{tg:Expr}
def yQ(K:PySem.W.Frag)(tl:TE):TI:=λσ H R=>tl σ H λx b=>∃a,x=.ref a/\(∃c,SqL K b a c)/\R (Itl K a) b
def Tv(K:PySem.W.Frag)(tl:TE):TI:=λσ H R=>tl σ H λx b=>∃a,x=.ref a/\(∃c,SqT K b a c)/\R (Itt K a) b
theorem vf{l:Expr}{tl:TE}(d:PE X l tl):PI X tg l (yQ X.K tl):=by
 intro pins s σ H R I h
 refine thn (d pins s σ H _ I h) λv s1 ⟨x,H1,I1,r1,q1⟩=>?_
 obtain⟨a,e,⟨i,c⟩,q⟩:=q1;subst e;cases r1;obtain⟨g,j,p,m⟩:=I1.list c;refine wpAny_pyIter_list p.isList ?_;refine⟨s1.heap.objs.size,[s1.heap.objs.size],_,_,H1,rfl,I1.kept (t':=s1.toks) λb o e=>zq _ e,Tq a _,⟨_,zG _ rfl,rfl,rfl⟩,λb f=>?_,q⟩
 have e:b=s1.heap.objs.size:=by simpa using f
 subst e;exact I1.fpOk (zb _) (I1.hok.fresh (zb _))
theorem Tw{l:Expr}{tl:TE}(f:PE X l tl):PI X tg l (Tv X.K tl):=by
 intro pins s σ H R I h
 refine thn (f pins s σ H _ I h) λv s1 ⟨x,H1,I1,r1,q1⟩=>?_
 obtain⟨a,e,⟨i,d⟩,q⟩:=q1;subst e;cases r1;obtain⟨c,j,p,m⟩:=I1.tuple d;refine wpAny_pyIter_tuple (show s1.heap.IsTuple a c.toArray from p) ?_;refine⟨s1.heap.objs.size,[s1.heap.objs.size],_,_,H1,rfl,I1.kept (t':=s1.toks) λb o e=>zq _ e,Tt a _,⟨_,zG _ rfl,rfl,rfl⟩,λb g=>?_,q⟩
 have e:b=s1.heap.objs.size:=by simpa using g
 subst e;exact I1.fpOk (zb _) (I1.hok.fresh (zb _))
theorem Ij{pins:List (Addr×Obj)}{σ:St}{H:Hp}{s:Shared}{R:It->Hp->Prop}{E:Value->Shared->Prop}{lo hi:Int}{t u v:Tok}{tk:Nat}(I:Inv X pins σ H s)(h1:-(2 ^ 62)<=lo)(h2:lo<2 ^ 62)(h3:-(2 ^ 62)<=hi)(h4:hi<2 ^ 62)
  (q:R (Itr lo (hi - lo).toNat) H):wpAny (model X.prog X.w) X.A (pyIter (.ref s.heap.objs.size)) (PIE X pins σ tg R) E {s with heap:=s.heap.push {cls:=.type "range",data:=.fields #[.int lo t,.int hi u,.int 1 v]},toks:=tk}:=by
 refine wpAny_pyIter_range (IsRange.new ..) (small_one h1 h2 h3 h4) ?_
 have a:Inv X pins σ H {s with heap:=s.heap.push {cls:=.type "range",data:=.fields #[.int lo t,.int hi u,.int 1 v]},toks:=tk}:=I.kept λb o e=>zq _ e
 refine⟨(s.heap.push {cls:=.type "range",data:=.fields #[.int lo t,.int hi u,.int 1 v]}).objs.size,[(s.heap.push {cls:=.type "range",data:=.fields #[.int lo t,.int hi u,.int 1 v]}).objs.size],_,_,H,rfl,
  a.kept (t':=tk) λb o e=>zq _ e,Tu _ lo (hi - lo).toNat,?_,λb c=>?_,q⟩
 ·have f:lo+((0:Nat):Int) * 1=lo:=by simp
  have d:(((hi - lo).toNat:Nat):Int) - ((0:Nat):Int)=Builtin.Range.rangeSize lo hi 1:=by rw[rangeSize_one];split<;>omega
  show IsRangeIter _ _ (lo+((0:Nat):Int) * 1) ((((hi - lo).toNat:Nat):Int) - ((0:Nat):Int)) 1;rw[f,d];exact zG _ rfl
 ·have e:b=(s.heap.push {cls:=.type "range",data:=.fields #[.int lo t,.int hi u,.int 1 v]}).objs.size:=by simpa using c
  subst e;exact a.fpOk (zb _) (a.hok.fresh (zb _))
def Tz(b:TA):TI:=λσ H R=>b σ H λa c=>∃j:Int,a=[.int j]/\-(2 ^ 62)<=j/\j<2 ^ 62/\R (Itr 0 j.toNat) c
def TF(b:TA):TI:=λσ H R=>b σ H λa c=>∃i j:Int,a=[.int i,.int j]/\(-(2 ^ 62)<=i/\i<2 ^ 62/\-(2 ^ 62)<=j/\j<2 ^ 62)/\R (Itr i (j - i).toNat) c
theorem TJ{a:Expr}{d:TA}{p b:Pos}(l:Gl X "range")(i:X.mg "range" = none)(m:PA X [a] d)(g:starEach [a] X.env=[(false,eval a X.env)]:=by rfl):PI X tg (.Call (.Name "range" p) [a] [] b) (Tz d):=by
 intro pins s σ H R I h;refine Call_ (jA I l i boot_range (PyProof.Rows.callWith_type1 (thn (m b pins s σ H _ I h) λus s1 ⟨vs,H1,I1,r1,c⟩=>?_) g rfl));obtain⟨j,e,c,f,q⟩:=c;subst e
 cases r1 with
 |cons r rr =>
  cases rr;obtain⟨t,rfl⟩:=r;exact call_range_1 (Ij I1 (by omega) (by omega) c f (by simpa using q))
theorem TQ{a b:Expr}{g:TA}{p c:Pos}(y:Gl X "range")(x:X.mg "range" = none)(z:PA X [a,b] g)(u:starEach [a,b] X.env=[(false,eval a X.env),(false,eval b X.env)]:=by rfl)(d:starEach [b] X.env=[(false,eval b X.env)]:=by rfl):
  PI X tg (.Call (.Name "range" p) [a,b] [] c) (TF g):=by
 intro pins s σ H R I h;refine Call_ (jA I y x boot_range (PyProof.Rows.callWith_type1 (thn (z c pins s σ H _ I h) λus s1 ⟨vs,H1,I1,r1,f⟩=>?_) (by rw[u,d]) (by rw[d];rfl)));obtain⟨i,j,e,⟨f,n,m,l⟩,q⟩:=f;subst e
 cases r1 with
 |cons r rr =>
  cases rr with
  |cons r' rr =>
   cases rr;obtain⟨t,rfl⟩:=r;obtain⟨B,rfl⟩:=r';exact call_range_2 (Ij I1 f n m l q)
def yR(f:TI)(g:TG)(h:TS):TS:=λD σ H=>f σ H λJ l=>∃W:Nat->Nat->St->Hp->Prop,(∃m,W 0 m σ l)/\∀i m σ H,W i m σ H ->
 (J.stop i H/\D.nx σ H)\/(J.go i H/\∃N:St->Hp->Prop,(∀b a,N b a->∃d,d<m/\W (i+1) d b a)/\∀x a,J.yld i H x a->g x σ a λc j=>h {D with nx:=N,ct:=N,bk:=D.nx} c j)
def rM(a:List Addr)(h:Heap):List (Addr×Obj):=a.filterMap λb=>(h.get? b).map λo=>(b,o)
theorem vg{a:List Addr}{h:Heap}{b:Addr}{o:Obj}(hb:b∈a)(e:h.get? b=some o):(b,o)∈rM a h:=List.mem_filterMap.mpr ⟨b,hb,by rw[e];rfl⟩
theorem TV{a:List Addr}{h:Heap}{p:Addr×Obj}(c:p∈rM a h):p.1∈a/\h.get? p.1=some p.2:=by
 obtain⟨b,d,e⟩:=List.mem_filterMap.mp c
 cases q:h.get? b with
 |none=>rw[q] at e;cases e
 |some o =>
  rw[q] at e;have e':(b,o)=p:=zB e;subst e';exact⟨d,q⟩
theorem Inv.pinned{pins:List (Addr×Obj)}{σ:St}{H:Hp}{s:Shared}{a:List Addr}(I:Inv X pins σ H s)(i:∀b∈a,gR X pins H b)(h:∀b∈a,∃o,s.heap.get? b=some o/\∀v,o.data≠.cell v):Inv X (pins++rM a s.heap) σ H s :=
 I.pins_of λp g=>(zz.mp g).elim (λz=>I.pin p (zL _ z)) λz=>by
  obtain⟨c,e⟩:=TV z;obtain⟨f0,l,j,_⟩:=i p.1 c;obtain⟨o,f,d⟩:=h p.1 c;rw[e] at f;cases f;exact⟨e,f0,l,j,d⟩
theorem Inv.unpinned{pins pl:List (Addr×Obj)}{σ:St}{H:Hp}{s:Shared}(I:Inv X (pins++pl) σ H s):Inv X pins σ H s:=I.pins_of λp a=>I.pin p (zL _ (jp _ a))
theorem Ik{iter:Expr}{body:List Stmt}{Y:TI}{g:TG}{tb:TS}{U:Pos}(E:PassesOwn (model X.prog X.w) X.A X.env X.xe)(hc:X.calm=true)(hi:PI X tg iter Y)(hg:PG X tg g)(hb:PSs X body tb)
  (hs:∀x,foldedSetIterable iter X.env x=pure x:=by intro _;rfl):PS X (.For tg iter body [] U) (yR Y g tb):=by
 intro pins s σ H D I h;refine wpAny_For (thn (hi pins s σ H _ I h) λv s1 h1=>thn h1 λitv s2 h2=>?_) hs;obtain⟨it,F,Z,J,H2,e,I2,T,R,f2,W,⟨m0,w0⟩,turn⟩:=h2;subst e
 have y:∀{z:Hp},(∀b∈F,z b=none)->∀b∈F,gR X pins z b:=λhn b hb=>⟨hn b hb,(f2 b hb).2⟩
 refine codeAny_forLoop_any (λn s'=>∃i q z,Inv X pins q z s'/\Z i s'.heap/\(∀b∈F,z b=none)/\W i n q z) ?_ m0 ⟨0,σ,H2,I2,R,λb hb=>(f2 b hb).1,w0⟩;rintro n s3 ⟨i,l,O,I3,G,L,w3⟩
 rcases turn i n l O w3 with⟨stop,qn⟩ | ⟨go,N,hN,step⟩
 ·refine wpAny_passesOwn E (thn (T.done X rfl rfl rfl hc i pins s3 l O X.xe I3 (y L) G stop) λr s4 ⟨Q,I4⟩=>?_);subst Q;exact wpAny_execs_nil ⟨l,O,I4,qn⟩
 ·refine wpAny_passesOwn E (thn (T.item X rfl rfl rfl hc i pins s3 l O X.xe I3 (y L) G go) λr s4 ⟨u,Q,h4⟩=>?_);subst Q;refine wpAny_passesOwn E (thn h4 λ_ s5 ⟨x,H5,I5,r5,y5,st5,fr5⟩=>?_);have I5':=I5.pinned (y fr5) (T.obj _ _ st5);refine wpAny_passesOwn E (thn (hg _ s5 l H5 x u _ I5' r5 (step x H5 y5)) λ_ s6 ⟨σ6,H6,I6,q6⟩=>?_);refine wpAny_passesOwn E (thn (hb _ s6 σ6 H6 _ I6 q6) λf P B=>?_)
  have again:∀{a:St}{j:Hp},Inv X (pins++rM F s5.heap) a j P->N a j->∃m,m<n/\∃i q z,Inv X pins q z P/\Z i P.heap/\(∀b∈F,z b=none)/\W i m q z:=λ{a j} c C=>by
   obtain⟨m',hm,w7⟩:=hN a j C;refine⟨m',hm,i+1,a,j,c.unpinned,T.keep _ _ _ st5 λb hb o e=>(c.pin (b,o) (zL _ (zL _ (vg hb e)))).1,λb hb=>?_,w7⟩;obtain⟨o,e,d⟩:=T.obj _ _ st5 b hb;exact(c.pin (b,o) (zL _ (zL _ (vg hb e)))).2.1
  cases f with
  |next=>obtain⟨a,j,c,C⟩:=B;exact again c C
  |cont=>obtain⟨a,j,c,C⟩:=B;exact again c C
  |brk=>obtain⟨a,j,c,B⟩:=B;exact⟨a,j,c.unpinned,B⟩
  |ret v=>obtain⟨x7,a,j,c,r7,B⟩:=B;exact⟨x7,a,j,c.unpinned,r7,B⟩
end
abbrev R2:=V->V->Hp->VK->Prop
def OpR(X:Cx)(f:Value->Value->Sem Value)(r:R2):Prop :=
 ∀(pins:List (Addr×Obj)) (s:Shared) (σ:St) (H:Hp) (x y:V) (v u:Value) (Q:VK),Inv X pins σ H s->RelV x v->RelV y u->r x y H Q ->
  wpAny (model X.prog X.w) X.A (f v u) (EP X pins σ Q) X.xe s
def UnR(X:Cx)(f:Value->Sem Value)(r:V->Hp->VK->Prop):Prop :=
 ∀(pins:List (Addr×Obj)) (s:Shared) (σ:St) (H:Hp) (x:V) (v:Value) (Q:VK),Inv X pins σ H s->RelV x v->r x H Q ->
  wpAny (model X.prog X.w) X.A (f v) (EP X pins σ Q) X.xe s
def gU(X:Cx)(f:Value)(r:List V->Hp->VK->Prop):Prop :=
 ∀(pins:List (Addr×Obj)) (s:Shared) (σ:St) (H:Hp) (a:List V) (b:List Value) (Q:VK),Inv X pins σ H s->aU a b->r a H Q ->
  wpAny (model X.prog X.w) X.A (call f b) (EP X pins σ Q) X.xe s
def TX(X:Cx)(r:V->Hp->(Bool->Hp->Prop)->Prop):Prop :=
 ∀(pins:List (Addr×Obj)) (s:Shared) (σ:St) (H:Hp) (x:V) (v:Value) (Q:Bool->Hp->Prop),Inv X pins σ H s->RelV x v->r x H Q ->
  wpAny (model X.prog X.w) X.A (truthy v) (TP X pins σ Q) X.xe s
def tOp(r:R2)(b a:TE):TE:=λσ H Q=>b σ H λx d=>a σ d λy c=>r x y c Q
def tUn(r:V->Hp->VK->Prop)(a:TE):TE:=λσ H Q=>a σ H λx b=>r x b Q
def rI(C:Int->Int->Prop)(g:Int->Int->V):R2:=λx y H Q=>∃i j,x=.int i/\y=.int j/\C i j/\Q (g i j) H
def rI0(g:Int->Int->V):R2:=λx y H Q=>∃i j,x=.int i/\y=.int j/\Q (g i j) H
def rU(g:Int->V):V->Hp->VK->Prop:=λx H Q=>∃i,x=.int i/\Q (g i) H
section
variable {X:Cx}{a b c:Expr}{ta tb tc:TE}{pos:Pos}
theorem yS(n:PE X a ta)(hb:PE X b tb){pins:List (Addr×Obj)}{s:Shared}{σ:St}{H:Hp}{R:V->V->Hp->Prop}(I:Inv X pins σ H s)
  (h:ta σ H λx l=>tb σ l λy d=>R x y d) {Q:Value->Shared->Prop}{f:Value->Value->Sem Value}
  (m:∀v u j x y d,Inv X pins σ d j->RelV x v->RelV y u->R x y d->wpAny (model X.prog X.w) X.A (f v u) Q X.xe j):
  wpAny (model X.prog X.w) X.A (eval a X.env) (λv i=>wpAny (model X.prog X.w) X.A (eval b X.env) (λu g=>wpAny (model X.prog X.w) X.A (f v u) Q X.xe g) X.xe i) X.xe s:=by
 refine thn (n pins s σ H _ I h) λv s1 ⟨x,l,I1,r1,q1⟩=>?_
 refine thn (hb pins s1 σ l _ I1 q1) λu j ⟨y,d,I2,r2,q2⟩=>?_
 exact m v u j x y d I2 r1 r2 q2
theorem TY{d:Operator}{r:R2}(j:OpR X (binaryOp d) r)(l:PE X a ta)(hb:PE X b tb):PE X (.BinOp a d b pos) (tOp r ta tb):=by
 intro pins s σ H Q I h;exact wpAny_BinOp (yS l hb I h λv u f x y n m i g q=>j pins f σ n x y v u Q m i g q)
theorem T3{d:UnaryOp}{r:V->Hp->VK->Prop}(f:UnR X (unaryOp d) r)(g:PE X a ta):PE X (.UnaryOp d a pos) (tUn r ta):=by
 intro pins s σ H Q I h;exact UnaryOp_ (thn (g pins s σ H _ I h) λv s1 ⟨x,H1,I1,r1,q1⟩=>f pins s1 σ H1 x v Q I1 r1 q1)
theorem opI{f:Value->Value->Sem Value}{C:Int->Int->Prop}{g:Int->Int->Int}
  (rule:∀(i j:Int) (t u:Tok) (s:Shared) (Q:Value->Shared->Prop) (E:Value->Shared->Prop),C i j->Q (.int (g i j) s.toks) {s with toks:=s.toks+1}->wpAny (model X.prog X.w) X.A (f (.int i t) (.int j u)) Q E s):
  OpR X f (rI C λi j=>.int (g i j)):=by
 intro pins s σ H x y v u Q I m l h;obtain⟨i,j,rfl,rfl,n,q⟩:=h;obtain⟨t,rfl⟩:=m;obtain⟨d,rfl⟩:=l;exact rule i j t d s _ _ n ⟨.int (g i j),H,I.tok _,⟨_,rfl⟩,q⟩
theorem Il{f:Value->Value->Sem Value}{g:Int->Int->Int}
  (rule:∀(i j:Int) (t u:Tok) (s:Shared) (Q:Value->Shared->Prop) (E:Value->Shared->Prop),Q (.int (g i j) s.toks) {s with toks:=s.toks+1}->wpAny (model X.prog X.w) X.A (f (.int i t) (.int j u)) Q E s):
  OpR X f (rI0 λi j=>.int (g i j)):=by
 intro pins s σ H x y v u Q I m l h;obtain⟨i,j,rfl,rfl,q⟩:=h;obtain⟨t,rfl⟩:=m;obtain⟨d,rfl⟩:=l;exact rule i j t d s _ _ ⟨.int (g i j),H,I.tok _,⟨_,rfl⟩,q⟩
theorem yU{f:Value->Value->Sem Value}{g:Int->Int->Bool}
  (rule:∀(i j:Int) (t u:Tok) (s:Shared) (Q:Value->Shared->Prop) (E:Value->Shared->Prop),Q (.bool (g i j)) s->wpAny (model X.prog X.w) X.A (f (.int i t) (.int j u)) Q E s):
  OpR X f (rI0 λi j=>.bl (g i j)):=by
 intro pins s σ H x y v u Q I m l h;obtain⟨i,j,rfl,rfl,q⟩:=h;obtain⟨t,rfl⟩:=m;obtain⟨d,rfl⟩:=l;exact rule i j t d s _ _ ⟨.bl (g i j),H,I,rfl,q⟩
def T4(i j:Int):Prop:=0<j/\j<1073741824
def T5(i j:Int):Prop:=0<=j/\j<=1000000/\i.natAbs<2 ^ 64
def yV(i j:Int):Prop:=(-(2 ^ 64)<i/\i<2 ^ 64)\/(-(2 ^ 64)<j/\j<2 ^ 64)
theorem yV.ok{i j:Int}(h:yV i j):IntMulOk i j:=by
 rcases h with⟨h1,h2⟩ | ⟨h1,h2⟩
 ·exact .of_left (intBits_le_64 h1 h2)
 ·exact .of_right (intBits_le_64 h1 h2)
theorem T6:OpR X (binaryOp .Add) (rI0 λi j=>.int (i+j)):=Il λ_ _ _ _ _ _ _ q=>add_int q
theorem T7:OpR X (binaryOp .Sub) (rI0 λi j=>.int (i - j)):=Il λ_ _ _ _ _ _ _ q=>sub_int q
theorem T8:OpR X (binaryOp .Mult) (rI yV λi j=>.int (i * j)):=opI λ_ _ _ _ _ _ _ d q=>mul_int q d.ok
theorem T9:OpR X (binaryOp .FloorDiv) (rI T4 λi j=>.int (i / j)):=opI λi j _ _ _ _ _ d q=>by
 have h1:(0:Int)<j:=d.1;have h2:j<1073741824:=d.2;exact floordiv_int (by omega) (by rw[Int.fdiv_eq_ediv_of_nonneg i (by omega)];exact q) (.inl (PyProof.noPylong_small (by omega)))
theorem Ua:OpR X (binaryOp .Mod) (rI (λ_ j=>0<j) λi j=>.int (i % j)):=opI λi j _ _ _ _ _ d q=>by
 have h1:(0:Int)<j:=d;exact mod_int' (by omega) (by rw[Int.fmod_eq_emod_of_nonneg i (by omega)];exact q)
theorem Ub:OpR X (binaryOp .Pow) (rI T5 λi j=>.int (i ^ j.toNat)):=opI λ_ _ _ _ _ _ _ d q=>pow_int_small d.1 d.2.1 d.2.2 q
theorem unI{f:Value->Sem Value}{g:Int->Int}
  (rule:∀(i:Int) (t:Tok) (s:Shared) (Q:Value->Shared->Prop) (E:Value->Shared->Prop),Q (.int (g i) s.toks) {s with toks:=s.toks+1}->wpAny (model X.prog X.w) X.A (f (.int i t)) Q E s):
  UnR X f (rU λi=>.int (g i)):=by
 intro pins s σ H x v Q I d h;obtain⟨i,rfl,q⟩:=h;obtain⟨t,rfl⟩:=d;exact rule i t s _ _ ⟨.int (g i),H,I.tok _,⟨_,rfl⟩,q⟩
theorem Uc:UnR X (unaryOp .USub) (rU λi=>.int (-i)):=unI λ_ _ _ _ _ q=>neg_int q
theorem Ud:OpR X (binaryOp .Add) (λx y H Q=>∃i k,x=.int i/\y=.bl k/\Q (.int (i+b2i k)) H):=by
 intro pins s σ H x y v u Q I f d h;obtain⟨i,k,rfl,rfl,q⟩:=h;obtain⟨t,rfl⟩:=f;cases d;exact add_int_bool ⟨.int (i+b2i k),H,I.tok _,⟨_,rfl⟩,q⟩
end
def Im:V->V->Bool
 | .non,.non=>true | .non,.int _=>true | .int _,.non=>true | .non,.bl _=>true | .bl _,.non=>true | .non,.str _=>true | .str _,.non=>true
 | .int _,.int _=>true | .bl _,.bl _=>true | .str _,.str _=>true | .byt _,.byt _=>true
 | .int _,.str _=>true | .str _,.int _=>true | .bl _,.str _=>true | .str _,.bl _=>true
 | _,_=>false
def rEq:R2:=λx y H Q=>Im x y=true/\Q (.bl (decide (x=y))) H
def rNe:R2:=λx y H Q=>Im x y=true/\Q (.bl (!decide (x=y))) H
theorem Io{i j:Int}:decide (V.int i=V.int j)=(i == j):=by
 rw[Bool.eq_iff_iff];simp
theorem Ip{i j:Bool}:decide (V.bl i=V.bl j)=(i == j):=by
 rw[Bool.eq_iff_iff];simp
theorem Ir{i j:Str}:decide (V.str i=V.str j)=(i == j):=by
 rw[Bool.eq_iff_iff];simp
theorem Iu{i j:Array UInt8}:decide (V.byt i=V.byt j)=(i.toList == j.toList):=by
 rw[Bool.eq_iff_iff];cases i;cases j;simp
section
variable {X:Cx}{a b c:Expr}{ta tb tc:TE}{pos:Pos}
theorem cP{pins:List (Addr×Obj)}{σ:St}{H:Hp}{s:Shared}{Q:VK}{k d:Bool}(I:Inv X pins σ H s)(q:Q (.bl k) H)(e:k=d):EP X pins σ Q (.bool d) s:=by
 subst e;exact⟨.bl k,H,I,rfl,q⟩
theorem yW:OpR X (compareOp .Eq) rEq:=by
 intro pins s σ H x y v u Q I l d h;obtain⟨g,q⟩:=h
 cases x with
 |non =>
  cases l
  cases y with
  |non=>cases d;exact PySem.EqNone.eq_none_none (cP I q (by simp))
  |bl j=>cases d;exact PySem.EqNone.eq_none_bool (cP I q (by simp))
  |int j=>obtain⟨f,rfl⟩:=d;exact PySem.EqNone.eq_none_int (cP I q (by simp))
  |str j=>obtain⟨f,rfl⟩:=d;exact PySem.EqNone.eq_none_str (cP I q (by simp))
  | _=>exact absurd (show false=true from g) zh
 |bl i =>
  cases l
  cases y with
  |non=>cases d;exact PySem.EqNone.eq_bool_none (cP I q (by simp))
  |bl j=>cases d;exact eq_bool (cP I q Ip)
  |str j=>obtain⟨f,rfl⟩:=d;exact PySem.EqMixed.eq_bool_str (cP I q (by simp))
  | _=>exact absurd (show false=true from g) zh
 |int i =>
  obtain⟨t,rfl⟩:=l
  cases y with
  |non=>cases d;exact PySem.EqNone.eq_int_none (cP I q (by simp))
  |int j=>obtain⟨f,rfl⟩:=d;exact eq_int (cP I q Io)
  |str j=>obtain⟨f,rfl⟩:=d;exact PySem.EqMixed.eq_int_str (cP I q (by simp))
  | _=>exact absurd (show false=true from g) zh
 |str i =>
  obtain⟨t,rfl⟩:=l
  cases y with
  |non=>cases d;exact PySem.EqNone.eq_str_none (cP I q (by simp))
  |bl j=>cases d;exact PySem.EqMixed.eq_str_bool (cP I q (by simp))
  |int j=>obtain⟨f,rfl⟩:=d;exact PySem.EqMixed.eq_str_int (cP I q (by simp))
  |str j=>obtain⟨f,rfl⟩:=d;exact eq_str (cP I q Ir)
  | _=>exact absurd (show false=true from g) zh
 |byt i =>
  obtain⟨t,rfl⟩:=l
  cases y with
  |byt j=>obtain⟨f,rfl⟩:=d;exact PySem.W.eq_bytes (cP I q Iu)
  | _=>exact absurd (show false=true from g) zh
 | _=>cases y<;>exact absurd (show false=true from g) zh
theorem yX:OpR X (compareOp .NotEq) rNe:=by
 intro pins s σ H x y v u Q I l d h;obtain⟨g,q⟩:=h
 cases x with
 |non =>
  cases l
  cases y with
  |non=>cases d;exact PySem.EqNone.ne_none_none (cP I q (by simp))
  |bl j=>cases d;exact PySem.EqNone.ne_none_bool (cP I q (by simp))
  |int j=>obtain⟨f,rfl⟩:=d;exact PySem.EqNone.ne_none_int (cP I q (by simp))
  |str j=>obtain⟨f,rfl⟩:=d;exact PySem.EqNone.ne_none_str (cP I q (by simp))
  | _=>exact absurd (show false=true from g) zh
 |bl i =>
  cases l
  cases y with
  |non=>cases d;exact PySem.EqNone.ne_bool_none (cP I q (by simp))
  |bl j=>cases d;exact ne_bool (cP I q (congrArg not Ip))
  |str j=>obtain⟨f,rfl⟩:=d;exact PySem.EqMixed.ne_bool_str (cP I q (by simp))
  | _=>exact absurd (show false=true from g) zh
 |int i =>
  obtain⟨t,rfl⟩:=l
  cases y with
  |non=>cases d;exact PySem.EqNone.ne_int_none (cP I q (by simp))
  |int j=>obtain⟨f,rfl⟩:=d;exact ne_int (cP I q (congrArg not Io))
  |str j=>obtain⟨f,rfl⟩:=d;exact PySem.EqMixed.ne_int_str (cP I q (by simp))
  | _=>exact absurd (show false=true from g) zh
 |str i =>
  obtain⟨t,rfl⟩:=l
  cases y with
  |non=>cases d;exact PySem.EqNone.ne_str_none (cP I q (by simp))
  |bl j=>cases d;exact PySem.EqMixed.ne_str_bool (cP I q (by simp))
  |int j=>obtain⟨f,rfl⟩:=d;exact PySem.EqMixed.ne_str_int (cP I q (by simp))
  |str j=>obtain⟨f,rfl⟩:=d;exact ne_str (cP I q (congrArg not Ir))
  | _=>exact absurd (show false=true from g) zh
 |byt i =>
  obtain⟨t,rfl⟩:=l
  cases y with
  |byt j=>obtain⟨f,rfl⟩:=d;exact PySem.W.ne_bytes (cP I q (congrArg not Iu))
  | _=>exact absurd (show false=true from g) zh
 | _=>cases y<;>exact absurd (show false=true from g) zh
theorem Ue:OpR X (compareOp .Lt) (rI0 λi j=>.bl (decide (i<j))):=yU λ_ _ _ _ _ _ _ q=>lt_int q
theorem Ug:OpR X (compareOp .LtE) (rI0 λi j=>.bl (decide (i<=j))):=yU λ_ _ _ _ _ _ _ q=>le_int q
theorem Uh:OpR X (compareOp .Gt) (rI0 λi j=>.bl (decide (j<i))):=yU λ_ _ _ _ _ _ _ q=>gt_int q
theorem Ui:OpR X (compareOp .In) (λx y H Q=>∃i j,x=.str i/\y=.str j/\Q (.bl (!(Builtin.Str.occurrences j i 0 j.length 1).isEmpty)) H):=by
 intro pins s σ H x y v u Q I f d h;obtain⟨i,j,rfl,rfl,q⟩:=h;obtain⟨t,rfl⟩:=f;obtain⟨g,rfl⟩:=d;exact in_str (cP I q rfl)
theorem bJ(b:Expr){d:CmpOp}(h:d≠.In:=by decide)(h2:d≠.NotIn:=by decide):behindInMarks d b=false:=by
 have g:(d == CmpOp.In)=false:=by cases d<;>first | rfl | exact absurd rfl h
 have f:(d == CmpOp.NotIn)=false:=by cases d<;>first | rfl | exact absurd rfl h2
 cases b<;>simp[behindInMarks,g,f]
theorem Uj{d:CmpOp}{r:R2}(j:OpR X (compareOp d) r)(m:PE X a ta)(hb:PE X b tb)(l:behindInMarks d b=false):PE X (.Compare a [d] [b] pos) (tOp r ta tb):=by
 intro pins s σ H Q I h;exact wpAny_Compare1 (yS m hb I h λv u f x y z n i g q=>j pins f σ z x y v u Q n i g q) l
def vh(t:TE):TT:=λσ H Q=>t σ H λx d=>∃k,x=.bl k/\Q k d
theorem Iv{d:CmpOp}{r:R2}(f:OpR X (compareOp d) r)(i:PE X a ta)(hb:PE X b tb)(g:behindInMarks d b=false):PT X (.Compare a [d] [b] pos) (vh (tOp r ta tb)):=by
 intro pins s σ H Q I h
 refine wpAny_isTrue_Compare1 (thn (i pins s σ H _ I h) λv s1 ⟨x,H1,I1,r1,q1⟩=>thn (hb pins s1 σ H1 _ I1 q1) λu s2 ⟨y,H2,I2,r2,q2⟩ =>
  thn (f pins s2 σ H2 x y v u _ I2 r1 r2 q2) λc s3 ⟨z,H3,I3,r3,k,e,q3⟩=>?_) g
 subst e;cases r3;exact wpAny_truthy_bool ⟨H3,I3,q3⟩
def yZ(r g:R2)(ta tb tc:TE):TE:=λσ H Q=>ta σ H λx j=>tb σ j λy i=>r x y i λz d=>∃k,z=.bl k /\
 (if k=true then tc σ d λf h=>g y f h Q else Q (.bl false) d)
theorem Uk{g f:CmpOp}{r j:R2}(l:OpR X (compareOp g) r)(i:OpR X (compareOp f) j)(q:PE X a ta)(hb:PE X b tb)(n:PE X c tc)
  (m:lastMarks [g,f] [b,c]=false:=by with_unfolding_all rfl):PE X (.Compare a [g,f] [b,c] pos) (yZ r j ta tb tc):=by
 intro pins s σ H Q I h
 refine Compare_chain (thn (q pins s σ H _ I h) λv s1 ⟨x,H1,I1,r1,q1⟩=>chain_link (thn (hb pins s1 σ H1 _ I1 q1) λu s2 ⟨y,H2,I2,r2,q2⟩ =>
  thn (l pins s2 σ H2 x y v u _ I2 r1 r2 q2) λd s3 ⟨z,H3,I3,r3,k,e,q3⟩=>?_)) m
 subst e;cases r3;refine wpAny_truthy_bool ?_
 cases k with
 |false=>exact ite_ff ⟨.bl false,H3,I3,rfl,q3⟩
 |true=>exact ite_tt (chain_last (thn (n pins s3 σ H3 _ I3 q3) λw' s4 ⟨z',H4,I4,r4,q4⟩=>i pins s4 σ H4 y z' u w' Q I4 r2 r4 q4))
theorem Ul{g f:CmpOp}{r j:R2}(m:OpR X (compareOp g) r)(i:OpR X (compareOp f) j)(B:PE X a ta)(hb:PE X b tb)(q:PE X c tc)
  (n:lastMarks [g,f] [b,c]=false:=by with_unfolding_all rfl):PT X (.Compare a [g,f] [b,c] pos) (vh (yZ r j ta tb tc)):=by
 intro pins s σ H Q I h
 refine isTrue_chain (thn (B pins s σ H _ I h) λv s1 ⟨x,H1,I1,r1,q1⟩=>test_link (thn (hb pins s1 σ H1 _ I1 q1) λu s2 ⟨y,H2,I2,r2,q2⟩ =>
  thn (m pins s2 σ H2 x y v u _ I2 r1 r2 q2) λd s3 ⟨z,H3,I3,r3,k,e,q3⟩=>?_)) n
 subst e;cases r3;refine wpAny_truthy_bool ?_
 cases k with
 |false =>
  obtain⟨E,C,l⟩:=q3;cases C;exact ite_ff ⟨H3,I3,l⟩
 |true =>
  refine ite_tt (test_last (thn (q pins s3 σ H3 _ I3 q3) λw' s4 ⟨z',H4,I4,r4,q4⟩=>thn (i pins s4 σ H4 y z' u w' _ I4 r2 r4 q4) λd' s5 ⟨z2,H5,I5,r5,k2,e2,q5⟩=>?_));subst e2;cases r5;exact wpAny_truthy_bool ⟨H5,I5,q5⟩
def z7(K:PySem.W.Frag)(x:V)(H:Hp)(k:Bool):Prop :=
 match x with
 | .non=>k=false
 | .bl b=>k=b
 | .int i=>k=(i != 0)
 | .str y=>y.length<=sizeLine/\k=((y.length:Int) != 0)
 | .byt y=>y.size<=sizeLine/\k=((y.size:Int) != 0)
 | .ref p=>(∃d,SqL K H p d/\k = !d.isEmpty)\/(∃d,SqT K H p d/\k = !d.isEmpty)\/∃f,H p=some (.dK f)/\k = !f.isEmpty
 | _=>False
theorem Um{κ:Type}{d:List (κ×V)}{vs:List (κ×Value)}(r:KV d vs):(!vs.isEmpty) = !d.isEmpty:=by
 cases r<;>rfl
theorem Iw{xs:List V}{its:List Value}(r:aU xs its):(!its.toArray.isEmpty) = !xs.isEmpty:=by
 cases r<;>simp
theorem rN:(sizeLine:Nat)<2 ^ 63:=by rw[sizeLine_eq];decide
theorem Uo:TX X (λx H Q=>∃k,z7 X.K x H k/\Q k H):=by
 intro pins s σ H x v Q I j h;obtain⟨k,e,q⟩:=h;have G:=rN;have F:sizeLine=16777216:=sizeLine_eq
 cases x with
 |non =>
  cases j;have d:k=false:=e;subst d;exact truthy_none ⟨H,I,q⟩
 |bl b =>
  cases j;have d:k=b:=e;subst d;exact wpAny_truthy_bool ⟨H,I,q⟩
 |int i =>
  obtain⟨t,rfl⟩:=j;have d:k=(i != 0):=e;subst d;exact PySem.P.truthy_int ⟨H,I,q⟩
 |str y =>
  obtain⟨t,rfl⟩:=j;obtain⟨C,d⟩:y.length<=sizeLine/\k=((y.length:Int) != 0):=e;subst d;exact PySem.P.truthy_str (by omega) ⟨H,I.tok _,q⟩
 |byt y =>
  obtain⟨t,rfl⟩:=j;obtain⟨C,d⟩:y.size<=sizeLine/\k=((y.size:Int) != 0):=e;subst d;exact PySem.W.truthy_bytes (by omega) ⟨H,I.tok _,q⟩
 |ref p =>
  cases j;have d:(∃g,SqL X.K H p g/\k = !g.isEmpty)\/(∃g,SqT X.K H p g/\k = !g.isEmpty)\/∃f,H p=some (.dK f)/\k = !f.isEmpty:=e
  rcases d with⟨g,l,d⟩ | ⟨g,l,d⟩ | ⟨f,l,d⟩
  ·subst d;obtain⟨z,r,u,B⟩:=I.list l;have hlen:=r.length;exact wpAny_truthy_list u.isList (by simp only[zr];omega) ⟨H,I.tok _,by rw[Iw r];exact q⟩
  ·subst d;obtain⟨z,r,u,B⟩:=I.tuple l;have hlen:=r.length;exact truthy_tuple u (by simp only[zr];omega) ⟨H,I.tok _,by rw[Iw r];exact q⟩
  ·subst d;obtain⟨B,E,n,r,m⟩:f.length<=sizeLine/\(p == sysModules)=false/\∃n,KV f n/\s.heap.DictOf (eQ X.prog X.w) p n:=I.hok p _ l;have hlen:f.length=n.length:=Paired.length r;exact wpAny_truthy_dict E m (by omega) ⟨H,I.tok _,by rw[Um r];exact q⟩
 | _=>exact(show False from e).elim
theorem Up(g:PE X a ta)(f:∀whole,isTrue a X.env whole=(do let v <-whole;standAt a.pos;holding [v] (truthy v))):
  PT X a (λσ H Q=>ta σ H λx d=>∃k,z7 X.K x d k/\Q k d):=by
 intro pins s σ H Q I h;exact isTrue_plain (thn (g pins s σ H _ I h) λv s1 ⟨x,H1,I1,r1,q1⟩=>Uo pins s1 σ H1 x v Q I1 r1 q1) (f _)
theorem Uq:OpR X (binaryOp .Add) (λx y H Q=>∃i j,x=.str i/\y=.str j/\i.length+j.length<=sizeLine/\Q (.str (i++j)) H):=by
 intro pins s σ H x y v u Q I g f h;obtain⟨i,j,rfl,rfl,l,q⟩:=h;obtain⟨t,rfl⟩:=g;obtain⟨d,rfl⟩:=f;exact add_str (λd tk=>⟨.str (i++j),H,I.tok _,⟨_,rfl⟩,q⟩) l
theorem vals1{x:V}{us:List Value}(r:aU [x] us):∃u,us=[u]/\RelV x u:=by
 cases r with
 |cons f d=>cases d;exact⟨_,rfl,f⟩
theorem vals2{x y:V}{us:List Value}(r:aU [x,y] us):∃u d,us=[u,d]/\RelV x u/\RelV y d:=by
 cases r with
 |cons r1 r2 =>
  cases r2 with
  |cons g f=>cases f;exact⟨_,_,rfl,r1,g⟩
theorem Ur(f:X.calm=true):gU X (.builtin "max") (λxs H Q=>∃i j,xs=[.int i,.int j]/\Q (.int (if j>i then j else i)) H):=by
 intro pins s σ H xs l Q I r h;obtain⟨i,j,rfl,q⟩:=h;obtain⟨u,g,rfl,⟨t,rfl⟩,⟨m,rfl⟩⟩:=vals2 r
 refine max_two_ints (I.ok.hd f) λn tk k=>⟨_,H,I.kept k,?_,q⟩
 by_cases d:j>i
 ·rw[if_pos d,if_pos d];exact⟨_,rfl⟩
 ·rw[if_neg d,if_neg d];exact⟨_,rfl⟩
theorem Iz:gU X (.type "int") (λxs H Q=>(∃i,xs=[.int i]/\Q (.int i) H)\/∃k,xs=[.bl k]/\Q (.int (if k then 1 else 0)) H):=by
 intro pins s σ H xs f Q I r h
 rcases h with⟨i,rfl,q⟩ | ⟨k,rfl,q⟩
 ·obtain⟨u,rfl,t,rfl⟩:=vals1 r;exact call_int_int ⟨.int i,H,I,⟨_,rfl⟩,q⟩
 ·obtain⟨u,rfl,d⟩:=vals1 r;cases d;exact call_int_bool ⟨.int (if k then 1 else 0),H,I.tok _,⟨_,rfl⟩,q⟩
theorem Us:gU X (.type "str") (λxs H Q=>∃i,xs=[.int i]/\i.natAbs.log2<1920/\Q (.str (toString i)) H):=by
 intro pins s σ H xs f Q I r h;obtain⟨i,rfl,d,q⟩:=h;obtain⟨u,rfl,t,rfl⟩:=vals1 r;exact PySem.P.str_of_int d ⟨.str _,H,I.tok _,⟨_,rfl⟩,q⟩
def Ut(K:PySem.W.Frag)(x:V)(H:Hp)(n:Nat):Prop :=
 match x with
 | .str y=>y.length<=sizeLine/\n=y.length
 | .byt y=>y.size<=sizeLine/\n=y.size
 | .ref p=>(∃d,SqL K H p d/\n=d.length)\/∃d,SqT K H p d/\n=d.length
 | _=>False
theorem call_len:gU X (.builtin "len") (λxs H Q=>∃x n,xs=[x]/\Ut X.K x H n/\Q (.int n) H):=by
 intro pins s σ H xs B Q I r h;obtain⟨x,n,rfl,e,q⟩:=h;obtain⟨u,rfl,f⟩:=vals1 r;have E:=rN;have C:sizeLine=16777216:=sizeLine_eq
 cases x with
 |str y =>
  obtain⟨t,rfl⟩:=f;obtain⟨z,d⟩:y.length<=sizeLine/\n=y.length:=e;subst d;exact len_str (by omega) ⟨.int _,H,I.tok _,⟨_,rfl⟩,q⟩
 |byt y =>
  obtain⟨t,rfl⟩:=f;obtain⟨z,d⟩:y.size<=sizeLine/\n=y.size:=e;subst d;exact PySem.W.len_bytes (by omega) ⟨.int _,H,I.tok _,⟨_,rfl⟩,q⟩
 |ref p =>
  cases f;have d:(∃xs,SqL X.K H p xs/\n=xs.length)\/∃xs,SqT X.K H p xs/\n=xs.length:=e
  rcases d with⟨xs,j,d⟩ | ⟨xs,j,d⟩
  ·subst d;obtain⟨l,g,i,m⟩:=I.list j;have hlen:=g.length;exact Calls.call_len_list i.isList (by simp only[zr];omega) ⟨.int xs.length,H,I.tok _,⟨_,by simp only[zr];rw[hlen]⟩,q⟩
  ·subst d;obtain⟨l,g,i,m⟩:=I.tuple j;have hlen:=g.length;exact len_tuple i (by simp only[zr];omega) ⟨.int xs.length,H,I.tok _,⟨_,by simp only[zr];rw[hlen]⟩,q⟩
 | _=>exact(show False from e).elim
end
structure nj(h:Heap)(x dx C:Addr)(mA:Str->Option Value):Prop where
 obj:h.get? x=some (PySem.W.instObj C dx)
 ns:h.Ns1 dx mA
 ne:dx≠x
theorem Uu{h:Heap}{g:Addr}{d:Str->Option Value}(n:h.Ns1 g d):∃c,h.get? g=some c/\∀name,PySem.W.lookIn name c=some (d name):=by
 obtain⟨o,f,r,j,hd,m,_,l⟩:=n;refine⟨o,j,λname=>?_⟩;have e:=l name;unfold nsFind findBy at e;rw[<-Array.find?_toList] at e;unfold PySem.W.lookIn;rw[hd];dsimp only
 split
 ·rename_i y q;rw[q] at e;exact congrArg some e
 ·rename_i q;rw[q] at e
  have a:f.toList.any (·.refKey)=false:=by
   rw[List.any_eq_false];intro y i;obtain⟨z,t,b⟩:=m y (Array.mem_toList_iff.mp i);simp[DictEntry.refKey,b]
  have a':¬f.toList.any (·.refKey)=true:=by rw[a];exact zh
  rw[if_neg a'];exact congrArg some e
theorem nj.look{h:Heap}{x c C:Addr}{b:Str->Option Value}(I:nj h x c C b):∃a,PySem.W.InstAt h x (PySem.W.instObj C c) C (some a)/\∀name,PySem.W.lookIn name a=some (b name):=
 let ⟨a,ho,hl⟩:=Uu I.ns
 ⟨a,⟨I.obj,rfl,rfl,ho⟩,hl⟩
section
variable {prog:Program}{w:World}{A:Around}{E:Value->Shared->Prop}{s:Shared}{K:PySem.W.Frag}{x dx C f:Addr}{mA:Str->Option Value}{name:Str}{v:Value}
theorem Uv{expr:Bool}{Q:Value->Shared->Prop}(X:K.In s.heap)(I:nj s.heap x dx C mA)(d:PySem.W.plainGet K C name=true)(c:PySem.W.hasDictIn K C=true)
  (g:PySem.W.findIn K (.ref C) name=some none) (hv:mA name=some v) (a:PySem.W.handedIn v=true) (h:Q v {s with toks:=s.toks+1}):
  wpAny (model prog w) A (getAttr (.ref x) name expr) Q E s:=by
 obtain⟨i,J,b⟩:=I.look;exact PySem.W.get_value X J (PySem.W.plainGet_of d).1 (PySem.W.findObj_own c g rfl (by rw[b,hv])) a h
theorem Uw{pl:Sem Bool}{Q:Value×List Value->Shared->Prop}(X:K.In s.heap)(I:nj s.heap x dx C mA)(a:PySem.W.plainGet K C name=true)
  (g:PySem.W.findIn K (.ref C) name=some (some (.ref f))) (c:PySem.W.isFn K (.ref f)=true) (hv:mA name=none) (h:Q (.ref f,[.ref x]) s):
  wpAny (model prog w) A (getMethod (.ref x) name pl) Q E s:=by
 obtain⟨b,J,d⟩:=I.look;exact PySem.W.method_fn X J (PySem.W.plainGet_of a).1 (PySem.W.plainGet_of a).2 g (beq_iff_eq.mp c) (by show(PySem.W.lookIn name b).map (·.isSome)=some false;rw[d,hv];rfl) h
theorem Ux{ns:List Str}{Q:Unit->Shared->Prop}(X:K.In s.heap)(I:nj s.heap x dx C mA)
  (q:PySem.W.findIn K (.ref C) "__setattr__" = some (some (.builtin "object.__setattr__"))) (u:PySem.W.plainOver K C=true) (n:PySem.W.takerIn K C name=some none) (z:PySem.W.hasDictIn K C=true)
  (hw:PySem.Within mA ns) (hsz:ns.length<=sizeLine)
  (h:∀h',nj h' x dx C (λy=>if y=name then some v else mA y)->Heap.SameBut dx s.heap h'->Q () {s with heap:=h',toks:=s.toks+2}):
  wpAny (model prog w) A (setAttr (.ref x) name v) Q E s:=by
 obtain⟨H,J,L⟩:=I.look;refine PySem.W.set_plain X J q (PySem.W.osa_open (s:={s with toks:=s.toks+1}) (r:=none) X J u n λb=>?_);obtain⟨O,B,j⟩:=PySem.W.any_some z;have m:s.heap.get? x=some ⟨.ref C,some dx,.plain,#[]⟩:=I.obj;refine za (zc (za (za (wpAny_loadPart m (za (PySem.W.Looks.here (s:={s with toks:=s.toks+1}) (PySem.W.looks_clsIn X B) ?_))))));rw[j];refine zc (a:=some dx) (za (zc (za ?_)))
 refine wpAny_nsSet1 (s:={s with toks:=s.toks+1}) I.ns λh' d c=>?_
 obtain⟨oD,F,G,g,i,l⟩:=d.count (PySem.Within.cons name v hw);refine za (wpAny_lookBehind g (by rw[i];exact pastItsLine_dict (zM l (by rw[zw];omega))) ?_);exact zc (h _ ⟨(c.2 _ (Ne.symm I.ne)).trans I.obj,d,I.ne⟩ c)
theorem Uy{R:Result->Shared->Prop}{vs:List Value}{a:List (Str×Value)}(X:K.In s.heap)(b:PySem.W.makesIn K C=true)
  (hi:PySem.W.findIn K (.ref C) "__init__" = some (some (.ref f))) (c:PySem.W.typeIn K (.ref f)=some (.type "function"))
  (h:codeAny (model prog w) (A.under (.builtin "type.__call__" ⟨.ref C::vs,a⟩)) (.call (.ref f) ⟨.ref (s.heap.objs.size+1)::vs,a⟩) (PySem.W.InitBack (s.heap.objs.size+1) R)
   {s with heap:=(s.heap.push PySem.W.emptyDict).push (PySem.W.instObj C s.heap.objs.size)}):
  codeAny (model prog w) A (.call (.ref C) ⟨vs,a⟩) R s:=by
 obtain⟨i,g,d,t,os⟩:=s;exact PySem.W.make_core (PySem.W.makes_of X b) (PySem.W.looks_findIn X hi) (λself=>PySem.W.bind_fn X self c) (.inl rfl) h
end
def dY(f:Str)(v:V):List (Str×V)->List (Str×V)
 | []=>[(f,v)]
 | (g,x)::r=>if g=f then(g,v)::r else(g,x)::dY f v r
theorem IK(f g:Str)(v:V):∀fs:List (Str×V),(dY f v fs).lookup g=if g=f then some v else fs.lookup g
 | []=>by
  show List.lookup g [(f,v)]=_
  by_cases h:g=f
  ·have a:(g == f)=true:=beq_iff_eq.mpr h;simp only[List.lookup,a,if_pos h]
  ·have a:(g == f)=false:=beq_eq_false_iff_ne.mpr h;simp only[List.lookup,a,if_neg h]
 | (k,x)::r=>by
  have c:=IK f g v r;rw[show dY f v ((k,x)::r)=(if k=f then(k,v)::r else(k,x)::dY f v r) from rfl]
  by_cases b:k=f
  ·rw[if_pos b]
   by_cases h:g=k
   ·have a:(g == k)=true:=beq_iff_eq.mpr h;simp only[List.lookup,a,if_pos (h.trans b)]
   ·have a:(g == k)=false:=beq_eq_false_iff_ne.mpr h;simp only[List.lookup,a,if_neg (λe:g=f=>h (e.trans b.symm))]
  ·rw[if_neg b]
   by_cases h:g=k
   ·have a:(g == k)=true:=beq_iff_eq.mpr h;simp only[List.lookup,a,if_neg (λe:g=f=>b (h.symm.trans e))]
   ·have a:(g == k)=false:=beq_eq_false_iff_ne.mpr h;simp only[List.lookup,a];exact c
theorem z8(f:Str)(v:V):∀fs:List (Str×V),f∈(dY f v fs).map (·.1)/\∀g,g∈fs.map (·.1)->g∈(dY f v fs).map (·.1)
 | []=>⟨by simp[dY],λg h=>by simp at h⟩
 | (k,x)::r=>by
  obtain⟨c,b⟩:=z8 f v r;rw[show dY f v ((k,x)::r)=(if k=f then(k,v)::r else(k,x)::dY f v r) from rfl]
  by_cases a:k=f
  ·rw[if_pos a];subst a;exact⟨by simp,λg h=>by simpa using h⟩
  ·rw[if_neg a];refine⟨?_,λg h=>?_⟩
   ·rw[ze];exact zt _ c
   ·rw[ze] at h ⊢
    rcases zo.mp h with e | e
    ·exact zo.mpr (.inl e)
    ·exact zt _ (b g e)
theorem IV(f:Str)(v:V):∀fs:List (Str×V),(dY f v fs).length<=fs.length+1
 | []=>by simp[dY]
 | (k,x)::r=>by
  have b:=IV f v r;rw[show dY f v ((k,x)::r)=(if k=f then(k,v)::r else(k,x)::dY f v r) from rfl]
  by_cases a:k=f
  ·rw[if_pos a,zw,zw];omega
  ·rw[if_neg a,zw,zw];omega
theorem fC.some_of{v:V}{o:Option Value}(r:fC (some v) o):∃u,o=some u/\RelV v u:=by
 cases o with
 |none=>exact(show False from r).elim
 |some u=>exact⟨u,rfl,r⟩
theorem fC.none_of{o:Option Value}(r:fC none o):o=none:=by
 cases o with
 |none=>rfl
 |some u=>exact(show False from r).elim
theorem Uz{v:V}{u:Value}(r:RelV v u):PySem.W.handedIn u=true:=by
 cases v with
 |non=>cases(show u=Value.none from r);rfl
 |bl b=>cases(show u=Value.bool b from r);rfl
 |int i=>obtain⟨t,e⟩:=(show ∃t,u=Value.int i t from r);cases e;rfl
 |str x=>obtain⟨t,e⟩:=(show ∃t,u=Value.str x t from r);cases e;rfl
 |byt b=>obtain⟨t,e⟩:=(show ∃t,u=Value.bytes b t from r);cases e;rfl
 |flt b=>obtain⟨t,e⟩:=(show ∃t,u=Value.float b t from r);cases e;rfl
 |ref a=>cases(show u=Value.ref a from r);rfl
 |ty n=>cases(show u=Value.type n from r);rfl
section
variable {P:Program}{w:World}{H H':Hp}{h h':Heap}{a C dx:Addr}{fs fs':List (Str×V)}
theorem vm(hok:HOk P w H h)(e:H a=some (.ins C dx fs)):∃b,nj h a dx C b/\(∀f,fC (fs.lookup f) (b f))/\PySem.Within b (fs.map (·.1))/\fs.length<=1000/\H dx=some (.own a):=by
 obtain⟨d,z,ne,ob,b,n,r,q⟩:=(show cF P w H h a (.ins C dx fs) from hok a _ e);exact⟨b,⟨ob,n,ne⟩,r,q,z,d⟩
end
structure Cls(K:PySem.W.Frag)(C:Addr):Prop where
 pg:PySem.W.plainGet K C Str.empty=true
 hd:PySem.W.hasDictIn K C=true
 po:PySem.W.plainOver K C=true
 sa:PySem.W.findIn K (.ref C) "__setattr__" = some (some (.builtin "object.__setattr__"))
theorem Cls.get{K:PySem.W.Frag}{C:Addr}(c:Cls K C)(f:Str):PySem.W.plainGet K C f=true:=c.pg
def nu(K:PySem.W.Frag)(C:Addr)(f:Str):Prop:=PySem.W.findIn K (.ref C) f=some none
theorem nu.taker{K:PySem.W.Frag}{C:Addr}{f:Str}(n:nu K C f):PySem.W.takerIn K C f=some none:=by
 unfold PySem.W.takerIn;rw[show PySem.W.findIn K (.ref C) f=some none from n];rfl
structure Con(K:PySem.W.Frag)(C:Addr)(f:Str)(v:V)(u:Value):Prop where
 at_:PySem.W.findIn K (.ref C) f=some (some u)
 rel:RelV v u
 get:PySem.W.specialIn K u "__get__" = some none
 cp:PySem.W.copiedNames.contains f=false
structure rP(K:PySem.W.Frag)(C:Addr)(m:Str)(f:Addr):Prop where
 at_:PySem.W.findIn K (.ref C) m=some (some (.ref f))
 fn:PySem.W.isFn K (.ref f)=true
 kp:PySem.W.keepIn K (.ref f)=true
section
variable {X:Cx}{pins:List (Addr×Obj)}{σ:St}{H:Hp}{s:Shared}{a C dx:Addr}{fs:List (Str×V)}{f:Str}{v:V}{A:Around}{E:Value->Shared->Prop}
theorem UG{b:Bool}{Q:Value->Shared->Prop}(I:Inv X pins σ H s)(e:H a=some (.ins C dx fs))(c:Cls X.K C)(n:nu X.K C f)(l:fs.lookup f=some v)
  (h:∀u d,Inv X pins σ H d->RelV v u->Q u d):wpAny (model X.prog X.w) A (getAttr (.ref a) f b) Q E s:=by
 obtain⟨i,O,r,_,_,_⟩:=vm I.hok e;obtain⟨u,j,g⟩:=fC.some_of (v:=v) (o:=i f) (by rw[<-l];exact r f);exact Uv I.kIn O (c.get f) c.hd n j (Uz g) (h u _ (I.tok _) g)
theorem IW{m:Str}{g:Addr}{pl:Sem Bool}{Q:Value×List Value->Shared->Prop}(I:Inv X pins σ H s)(e:H a=some (.ins C dx fs))(c:Cls X.K C)(k:rP X.K C m g)(l:fs.lookup m=none)
  (h:Q (.ref g,[.ref a]) s):wpAny (model X.prog X.w) A (getMethod (.ref a) m pl) Q E s:=by
 obtain⟨b,O,r,_,_,_⟩:=vm I.hok e;have d:b m=none:=fC.none_of (by rw[<-l];exact r m);exact Uw I.kIn O (c.get m) k.at_ k.fn d h
theorem UJ{y:V}{u:Value}{Q:Unit->Shared->Prop}(I:Inv X pins σ H s)(e:H a=some (.ins C dx fs))(c:Cls X.K C)(n:nu X.K C f)(R:fs.length<1000)(F:RelV y u)
  (h:∀j,Inv X pins σ (upd H a (.ins C dx (dY f y fs))) j->Q () j):wpAny (model X.prog X.w) A (setAttr (.ref a) f u) Q E s:=by
 obtain⟨l,O,r,i,_,m⟩:=vm I.hok e
 have G:(fs.map (·.1)).length<=sizeLine:=by rw[zd,sizeLine_eq];omega
 refine Ux I.kIn O c.sa c.po n.taker c.hd i G λP d B=>h _ ?_
 have hd:∃o,P.get? dx=some o:=let ⟨o,_,_,e',_⟩:=d.ns;⟨o,e'⟩;refine I.write (x:=a) (e:=dx) (by rw[e];exact True.intro) (.inr m) (λb q L z=>(B.2 b L).trans z) hd ?_;refine⟨by rw[aO O.ne];exact m,?_,O.ne,d.obj,_,d.ns,λg=>?_,λg J=>?_⟩
 ·have:=IV f y fs;omega
 ·show fC ((dY f y fs).lookup g) (if g=f then some u else l g);rw[IK]
  by_cases q:g=f
  ·rw[if_pos q,if_pos q];exact F
  ·rw[if_neg q,if_neg q];exact r g
 ·by_cases q:g=f
  ·rw[q];exact(z8 f y fs).1
  ·refine(z8 f y fs).2 g (i g λz=>J ?_);show(if g=f then some u else l g)=none;rw[if_neg q];exact z
theorem Inv.made(I:Inv X pins σ H s):Inv X pins σ (upd (upd H s.heap.objs.size (.own (s.heap.objs.size+1))) (s.heap.objs.size+1) (.ins C s.heap.objs.size []))
  {s with heap:=(s.heap.push PySem.W.emptyDict).push (PySem.W.instObj C s.heap.objs.size)}:=by
 have c:(s.heap.push PySem.W.emptyDict).get? s.heap.objs.size=some PySem.W.emptyDict:=zG s.heap rfl
 have i:((s.heap.push PySem.W.emptyDict).push (PySem.W.instObj C s.heap.objs.size)).get? (s.heap.objs.size+1)=some (PySem.W.instObj C s.heap.objs.size):=by
  have:=zG (s.heap.push PySem.W.emptyDict) (o:=PySem.W.instObj C s.heap.objs.size) rfl
  rwa [Heap.size_push] at this
 have h:(s.heap.push PySem.W.emptyDict).Ns s.heap.objs.size (λ_=>none):=⟨PySem.W.emptyDict,#[],_,c,rfl,(λe g=>absurd g (by simp)),λ_=>rfl⟩;have j:=I.laid (a:=s.heap.objs.size) (o:=.own (s.heap.objs.size+1)) (h':=s.heap.push PySem.W.emptyDict) (t':=s.toks) (λb u q=>zq _ q) (zb _) ⟨_,c⟩;refine j.laid (a:=s.heap.objs.size+1) (o:=.ins C s.heap.objs.size []) (t':=s.toks) (λb u q=>zq _ q) (Nat.le_of_eq (Heap.size_push _ _)) ?_;have ne:s.heap.objs.size≠s.heap.objs.size+1:=zy (je _);refine⟨by rw[aO ne,bN],Nat.zero_le _,ne,i,λ_=>none,(Heap.Ns1.of_empty h).at λo q=>zq _ q,λ_=>True.intro,λy d=>absurd rfl d⟩
theorem UL{prog:Program}{w:World}{env:Env}{e:Expr}{f:Str}{c:Pos}{s:Shared}{Q:Value->Shared->Prop}(hb:attributeBase e f env (eval e env)=eval e env)
  (h:wpAny (model prog w) A (eval e env) (λo b=>wpAny (model prog w) A (getAttr o f true) Q E b) E s):wpAny (model prog w) A (eval (.Attribute e f c) env) Q E s :=
 Attribute_any_ h (by rw[arm_eval_Attribute,hb])
end
def UT(K:PySem.W.Frag)(c:TE)(f:Str):TE:=λσ H Q=>c σ H λx b=>∃a C d fs v,x=.ref a/\b a=some (.ins C d fs)/\Cls K C/\nu K C f/\fs.lookup f=some v/\Q v b
def UV(K:PySem.W.Frag)(g d:TE)(f:Str):TS:=λD σ H=>d σ H λy h=>g σ h λx c=>∃a C b fs,x=.ref a/\c a=some (.ins C b fs)/\Cls K C/\nu K C f/\fs.length<1000 /\
 D.nx σ (upd c a (.ins C b (dY f y fs)))
section
variable {X:Cx}{o e value:Expr}{f:Str}{pos pos' tpos:Pos}{ta tv:TE}
theorem UW(d:PE X e ta)(hb:attributeBase e f X.env (eval e X.env)=eval e X.env):PE X (.Attribute e f pos) (UT X.K ta f):=by
 intro pins s σ H Q I h;refine UL hb (thn (d pins s σ H _ I h) λu s1 ⟨x,H1,I1,rx,a,C,dx,fs,v,ex,ea,c,n,l,q⟩=>?_);subst ex;obtain rfl:u=Value.ref a:=rx
 exact UG I1 ea c n l λi j g b=>⟨v,H1,g,b,q⟩
theorem U0(d:PE X o ta)(hv:PE X value tv)(b:swapsWith value (some (.Attribute o f pos')) pos.line X.env=pure false):PS X (.Assign [.Attribute o f pos'] value pos) (UV X.K ta tv f):=by
 intro pins s σ H D I h;refine plainObj_wpAny_Assign_Attribute (thn (hv pins s σ H _ I h) λu s1 ⟨y,H1,I1,ry,q⟩=>thn (d pins s1 σ H1 _ I1 q) λov s2 ⟨x,H2,I2,rx,a,C,dx,fs,ex,ea,c,n,l,q2⟩=>?_) b;subst ex;obtain rfl:ov=Value.ref a:=rx
 exact UJ I2 ea c n l ry λi g=>⟨σ,_,g,q2⟩
end
section
variable {X:Cx}{pins:List (Addr×Obj)}{σ:St}{H:Hp}{s:Shared}{A:Around}{E:Value->Shared->Prop}{Q:Value->Shared->Prop}{c:Value}{b:Bool}
inductive gW (K:PySem.W.Frag) (H:Hp):V->Value->Prop where
 | non:gW K H .non (.type "NoneType")
 | bl (x:Bool):gW K H (.bl x) (.type "bool")
 | int (i:Int):gW K H (.int i) (.type "int")
 | str (x:Str):gW K H (.str x) (.type "str")
 | flt (x:UInt64):gW K H (.flt x) (.type "float")
 | lst {a:Addr}{xs:List V} (e:H a=some (.lst xs)):gW K H (.ref a) (.type "list")
 | frz {a:Addr}{o:Obj}{xs:List V} (e:H a=some (.frz o (.lst xs))):gW K H (.ref a) (.type "list")
 | tup {a:Addr}{xs:List V} (e:H a=some (.tup xs)):gW K H (.ref a) (.type "tuple")
 | dK {a:Addr}{kvs:List (Key×V)} (e:H a=some (.dK kvs)):gW K H (.ref a) (.type "dict")
 | dT {a:Addr}{kvs:List (List Key×V)} (e:H a=some (.dT kvs)):gW K H (.ref a) (.type "dict")
 | ins {a C dx:Addr}{fs:List (Str×V)} (e:H a=some (.ins C dx fs)) (cl:Cls K C) (ha:PySem.W.findIn K (.ref C) "__class__" = some (some (.builtin "object.__class__")))
   (hn:PySem.W.specialIn K (.builtin "object.__class__") "__get__" = some (some (.builtin "getset_descriptor.__get__"))) (htk:PySem.W.takesIn K (.builtin "object.__class__")=some true)
   (hm:PySem.W.mroIn K C (.type "object")=some true):gW K H (.ref a) (.ref C)
theorem rQ{x:V}{u t:Value}(I:Inv X pins σ H s)(d:RelV x u)(ty:gW X.K H x t)(e:PySem.W.kitOne X.K t c=some b)(h:∀tk,Q (.bool b) {s with toks:=tk}):
  wpAny (model X.prog X.w) A (call (.builtin "isinstance") [u,c]) Q E s:=by
 cases ty with
 |non=>cases(show u=Value.none from d);exact PySem.W.kia_one PySem.W.kitx_none I.kIn True.intro e (λz=>nomatch z) h
 |bl y=>cases(show u=Value.bool y from d);exact PySem.W.kia_one PySem.W.kitx_bool I.kIn True.intro e (λz=>nomatch z) h
 |int i=>obtain⟨t,q⟩:=(show ∃t,u=Value.int i t from d);cases q;exact PySem.W.kia_one PySem.W.kitx_int I.kIn True.intro e (λz=>nomatch z) h
 |str y=>obtain⟨t,q⟩:=(show ∃t,u=Value.str y t from d);cases q;exact PySem.W.kia_one PySem.W.kitx_str I.kIn True.intro e (λz=>nomatch z) h
 |flt y=>obtain⟨t,q⟩:=(show ∃t,u=Value.float y t from d);cases q;exact PySem.W.kia_one PySem.W.kitx_float I.kIn True.intro e (λz=>nomatch z) h
 | @lst a f ea =>
  cases(show u=Value.ref a from d);obtain⟨_,_,n,_,h1⟩:=(show cF X.prog X.w H s.heap a (.lst f) from I.hok a _ ea);exact PySem.W.kia_one PySem.W.kitx_list I.kIn ⟨_,h1,rfl⟩ e (λz=>nomatch z) h
 | @frz a ob f ea =>
  cases(show u=Value.ref a from d);obtain⟨_,_,_,n,_,h1⟩:=(show cF X.prog X.w H s.heap a (.frz ob (.lst f)) from I.hok a _ ea);exact PySem.W.kia_one PySem.W.kitx_list I.kIn ⟨_,h1,rfl⟩ e (λz=>nomatch z) h
 | @tup a f ea =>
  cases(show u=Value.ref a from d);obtain⟨_,_,_,p⟩:=(show cF X.prog X.w H s.heap a (.tup f) from I.hok a _ ea);obtain⟨o,h1,h2,_⟩:=p;exact PySem.W.kia_one PySem.W.kitx_tuple I.kIn ⟨o,h1,h2⟩ e (λz=>nomatch z) h
 | @dK a kvs ea =>
  cases(show u=Value.ref a from d);obtain⟨_,_,l,_,p⟩:=(show cF X.prog X.w H s.heap a (.dK kvs) from I.hok a _ ea);obtain⟨o,g,j,h1,h2,_⟩:=p;exact PySem.W.kia_one PySem.W.kitx_dict I.kIn ⟨o,h1,h2.1⟩ e (λz=>nomatch z) h
 | @dT a kvs ea =>
  cases(show u=Value.ref a from d);obtain⟨_,_,f,_,o,g,j,h1,h2,_⟩:=(show cF X.prog X.w H s.heap a (.dT kvs) from I.hok a _ ea);exact PySem.W.kia_one PySem.W.kitx_dict I.kIn ⟨o,h1,h2.1⟩ e (λz=>nomatch z) h
 | @ins a C dx fs ea cl ha hn htk hm =>
  cases(show u=Value.ref a from d);obtain⟨r,O,_⟩:=vm I.hok ea;obtain⟨m,J,_⟩:=O.look;exact PySem.W.kia_one (PySem.W.kitx_own (cl.get _) cl.hd ha hn htk hm) I.kIn J e (λz=>nomatch z) h
end
structure bA(k:Nat)(A:Around):Prop where
 hd:A.handled=none
 dp:A.depth+3 * k+5<recursionLimit
 un:A.units+16 * k+200<cLine
theorem bA.mono{j k:Nat}{A:Around}(r:bA k A)(h:j<=k):bA j A:=⟨r.hd,by have:=r.dp;omega,by have:=r.un;omega⟩
theorem bA.deeper{k:Nat}{A:Around}(r:bA (k+1) A)(env:Env):bA k (A.deeper env):=
 ⟨r.hd,by have:=r.dp;show A.depth+1+3 * k+5<_;omega,by have:=r.un;show A.units+3+16 * k+200<_;omega⟩
theorem U3{A:Around}{C:Addr}{us:List Value}{a:List (Str×Value)}:(A.under (.builtin "type.__call__" ⟨.ref C::us,a⟩)).depth=A.depth+1:=by
 first | rfl | simp[Around.under,Code.weight,Code.isCreation,Code.isGuard,Code.isCaller,Code.frames,Code.isFrame,guardIds]
theorem U4{A:Around}{C:Addr}{us:List Value}{a:List (Str×Value)}:(A.under (.builtin "type.__call__" ⟨.ref C::us,a⟩)).units=A.units+1:=by
 first | rfl | simp[Around.under,Code.cUnits,Code.frames,Code.isFrame]
theorem bA.make{k:Nat}{A:Around}(r:bA (k+1) A)(C:Addr)(us:List Value)(a:List (Str×Value)):bA k (A.under (.builtin "type.__call__" ⟨.ref C::us,a⟩)):=
 ⟨r.hd,by have:=r.dp;rw[U3];omega,by have:=r.un;rw[U4];omega⟩
theorem bA.depth{k:Nat}{A:Around}(r:bA k A):A.depth<recursionLimit:=by have:=r.dp;omega
theorem bA.units{k:Nat}{A:Around}(r:bA k A):A.units+64<cLine:=by have:=r.un;omega
def Ja:TA:=λ_ H Q=>Q [] H
def U5(b:TE)(tr:TA):TA:=λσ H Q=>b σ H λx d=>tr σ d λa c=>Q (x::a) c
section
variable {X:Cx}{e:Expr}{es:List Expr}{te:TE}{t:TA}{pos:Pos}
theorem oZ:PA X [] Ja:=λ_ _ _ _ H Q I h=>Calls.spliced_nil ⟨[],H,I,.nil,h⟩
theorem nA(c:PE X e te)(b:PA X es t)(a:starEach (e::es) X.env=(false,eval e X.env)::starEach es X.env:=by rfl):PA X (e::es) (U5 te t):=by
 intro pos pins s σ H Q I h;rw[a];show wpAny _ _ (spliced ((false,eval e X.env)::backTo pos (starEach es X.env))) _ _ s;refine Calls.spliced_cons (thn (c pins s σ H _ I h) λu s1 ⟨x,H1,I1,r1,q1⟩=>?_)
 exact thn (b pos pins s1 σ H1 _ I1 q1) λus s2 ⟨xs,H2,I2,r2,q2⟩=>⟨x::xs,H2,I2,.cons r1 r2,q2⟩
def U6(t:TA):TE:=λσ H Q=>t σ H λa b=>a.length<=sizeLine/\∀p,b p=none->Q (.ref p) (upd b p (.tup a))
def U7(t:TA):TE:=λσ H Q=>t σ H λa b=>a.length<=sizeLine/\∀p,b p=none->Q (.ref p) (upd b p (.lst a))
theorem U8{x1}(h:PA X es t):PE X (.Tuple es x1 pos) (U6 t):=by
 intro pins s σ H Q I a;refine wpAny_Tuple_spliced (thn (h pos pins s σ H _ I a) λus s1 ⟨xs,H1,I1,r,z,q⟩=>⟨by rw[<-r.length];exact z,?_⟩);have c:H1 s1.heap.objs.size=none:=I1.hok.fresh (zb _);refine⟨.ref s1.heap.objs.size,upd H1 s1.heap.objs.size (.tup xs),I1.laid (t':=s1.toks) (λb u e=>zq _ e) (zb _) ?_,rfl,q _ c⟩;exact⟨z,us,r,⟨_,zG _ rfl,rfl,_,rfl⟩⟩
theorem U9(h:PA X es t):PE X (.List es pos) (U7 t):=by
 intro pins s σ H Q I a;refine wpAny_List_spliced (thn (h pos pins s σ H _ I a) λus s1 ⟨xs,H1,I1,r,z,q⟩=>⟨by rw[<-r.length];exact z,?_⟩);have c:H1 s1.heap.objs.size=none:=I1.hok.fresh (zb _);refine⟨.ref s1.heap.objs.size,upd H1 s1.heap.objs.size (.lst xs),I1.laid (t':=s1.toks) (λb u e=>zq _ e) (zb _) ?_,rfl,q _ c⟩;exact⟨z,us,0,r,zG _ rfl⟩
end
abbrev Sp:=List V->Hp->VK->XK->Prop
abbrev CXT:=List Env->Hp->Shared->XK->Value->Shared->Prop
structure lM(P:Program)(w:World)(K:PySem.W.Frag)(mg:Str->Option Value)(base:Heap)(A:Around)(outer:List Env)(s:Shared)(H:Hp):Prop where
 frames:A.frames=some outer
 mod:Mod K mg base
 bs:∀b o,base.get? b=some o->s.heap.get? b=some o/\H b=none
 bsz:base.objs.size<=s.heap.objs.size
 funs:s.heap.FunFrames base outer
 frf:∀b∈frs outer,H b=none
 hok:HOk P w H s.heap
 bare:AllBare s.gens
def CE(outer:List Env)(P:Program)(w:World)(H:Hp)(s:Shared)(Q:VK)(u:Value)(a:Shared):Prop :=
 ∃v b,a.os=s.os/\AllBare a.gens/\Un (frs outer) [] H b s.heap a.heap/\HOk P w b a.heap/\RelV v u/\Q v b
def CR(CX:CXT)(outer:List Env)(P:Program)(w:World)(H:Hp)(s:Shared)(Q:VK)(E:XK)(r:Result)(a:Shared):Prop :=
 match r with
 | .ok (.ret u)=>CE outer P w H s Q u a
 | .ok _=>False
 | .error e=>CX outer H s E e a
structure dI(P:Program)(w:World)(K:PySem.W.Frag)(mg:Str->Option Value)(base:Heap)(CX:CXT)(k:Nat)(f:Addr)(fd:FuncData)(ps:List Str)(sp:Sp):Prop where
 len:∀vs H Q E,sp vs H Q E->vs.length=ps.length
 run:∀(A:Around) (outer:List Env) (s:Shared) (H:Hp) (args:Args) (us:List Value) (vs:List V) (Q:VK) (E:XK),bA k A->lM P w K mg base A outer s H->BindsTo s fd args (ps.zip us)->aU vs us->sp vs H Q E ->
  codeAny (model P w) A (.call (.ref f) args) (CR CX outer P w H s Q E) s
theorem dI.imp{P:Program}{w:World}{K:PySem.W.Frag}{mg:Str->Option Value}{base:Heap}{CX:CXT}{k:Nat}{f:Addr}{fd:FuncData}{ps:List Str}{sp a:Sp}(F:dI P w K mg base CX k f fd ps sp)
  (h:∀vs H Q E,a vs H Q E->sp vs H Q E):dI P w K mg base CX k f fd ps a :=
 ⟨λvs H Q E q=>F.len vs H Q E (h _ _ _ _ q),λA outer s H args b vs Q E g i j c d=>F.run A outer s H args b vs Q E g i j c (h _ _ _ _ d)⟩
theorem lM.make{P:Program}{w:World}{K:PySem.W.Frag}{mg:Str->Option Value}{base:Heap}{A:Around}{outer:List Env}{s:Shared}{H:Hp}(e:lM P w K mg base A outer s H)(C:Addr)(us:List Value)(a:List (Str×Value)):
  lM P w K mg base (A.under (.builtin "type.__call__" ⟨.ref C::us,a⟩)) outer s H:=⟨by first | exact e.frames | (simpa [Around.under,Code.envs,Code.isFrame,pushEnvs] using e.frames),e.mod,e.bs,e.bsz,e.funs,e.frf,e.hok,e.bare⟩
section
variable {X:Cx}{pins:List (Addr×Obj)}{σ:St}{H:Hp}{s s':Shared}
theorem Inv.env0(I:Inv X pins σ H s):lM X.prog X.w X.K X.mg X.base X.A X.stack s H :=
 ⟨I.ok.frames,I.ok.mod,I.bs,zM I.ok.bsz I.sz,I.stack,I.stkFree,I.hok,I.bare⟩
theorem Inv.after{Q:VK}{u:Value}(I:Inv X pins σ H s)(h:CE X.stack X.prog X.w H s Q u s'):EP X pins σ Q u s':=by
 obtain⟨v,f,os,bare,un,hok,r,q⟩:=h;obtain⟨c,g,d,t,a⟩:=s';obtain rfl:a=s.os:=os;exact⟨v,f,I.call (h':=c) (g':=g) (d':=d) (t':=t) (ch:=[]) un hok bare (λb z=>absurd z (by simp)),r,q⟩
end
def z9(sp:Sp)(dvs:List V)(E:XK)(t:TA):TE:=λσ H Q=>t σ H λa b=>sp (a++dvs) b Q E
def Aa(C:Addr)(m:Str)(sp:Sp)(dvs:List V)(E:XK)(d:TE)(t:TA):TE:=λσ H Q=>d σ H λx b=>∃a f fs,x=.ref a/\b a=some (.ins C f fs)/\fs.lookup m=none /\
 t σ b λc g=>sp (x::(c++dvs)) g Q E
def Jb(C:Addr)(sp:Sp)(dvs:List V)(E:XK)(t:TA):TE:=λσ H Q=>t σ H λc b=>∀x a,b x=none->b a=none->a≠x ->
 sp (.ref x::(c++dvs)) (upd (upd b a (.own x)) x (.ins C a [])) (λv d=>v=.non/\Q (.ref x) d) E
def Binds(K:PySem.W.Frag)(fd:FuncData)(ps:List Str)(ds:List Value):Prop :=
 ∀(s:Shared) (a:List Value),K.In s.heap->(a++ds).length=ps.length->BindsTo s fd ⟨a,[]⟩ (ps.zip (a++ds))
theorem Binds.all{K:PySem.W.Frag}{fd:FuncData}{ps:List Str}(h:∀us:List Value,us.length=ps.length->bindArgs fd ⟨us,[]⟩=pure (ps.zip us)):Binds K fd ps []:=λs us _ a=>by
 rw[zH] at a ⊢;exact .of_eq (h us a)
def nC(CX:CXT)(X:Cx)(E:XK):Prop:=∀(pins:List (Addr×Obj)) (σ:St) (H:Hp) (s:Shared) (e:Value) (a:Shared),Inv X pins σ H s->CX X.stack H s E e a->X.xe e a
section
variable {X:Cx}{CX:CXT}{k:Nat}{f C:Addr}{fd:FuncData}{ps:List Str}{sp:Sp}{dvs:List V}{ds:List Value}{E:XK}{x m:Str}{p pos apos:Pos}{e o:Expr}{es:List Expr}{ta:TE}{t:TA}
theorem Ab{pins:List (Addr×Obj)}{σ:St}{H:Hp}{s:Shared}{Q:VK}{us:List Value}{vs:List V}(F:dI X.prog X.w X.K X.mg X.base CX k f fd ps sp)(g:bA k X.A)(hb:Binds X.K fd ps ds)(hd:aU dvs ds)(d:nC CX X E)
  (I:Inv X pins σ H s) (r:aU vs us) (h:sp (vs++dvs) H Q E):wpAny (model X.prog X.w) X.A (call (.ref f) us) (EP X pins σ Q) X.xe s:=by
 have b:aU (vs++dvs) (us++ds):=r.append hd
 have i:(us++ds).length=ps.length:=by rw[<-b.length];exact F.len _ _ _ _ h
 refine wpAny_call (codeAny_mono (F.run X.A X.stack s H ⟨us,[]⟩ (us++ds) (vs++dvs) Q E g I.env0 (hb s us I.kIn i) b h) λr c a=>?_)
 cases r with
 |error e=>exact d pins σ H s e c I a
 |ok fl =>
  cases fl with
  |ret u=>exact I.after a
  |next=>exact False.elim a
  |brk=>exact False.elim a
  |cont=>exact False.elim a
theorem Va(F:dI X.prog X.w X.K X.mg X.base CX k f fd ps sp)(d:bA k X.A)(j:Gl X x)(g:X.mg x=some (.ref f))(i:PySem.W.keepIn X.K (.ref f)=true)(hb:Binds X.K fd ps ds)(hd:aU dvs ds)(c:nC CX X E)
  (n:PA X (e::es) t) (b:(x == ("__debug__":Str))=false:=by decide) (l:starEach (e::es) X.env=(false,eval e X.env)::starEach es X.env:=by rfl) (a:(backTo pos (starEach es X.env)).any (·.1)=false:=by rfl):
  PE X (.Call (.Name x p) (e::es) [] pos) (z9 sp dvs E t):=by
 intro pins s σ H Q I h;refine wpAny_Call_Name_kw (yO I j g ?_ b);refine PySem.W.callWith_K (h₀:=X.base) I.ok.mod.kin i (thn (n pos pins s σ H _ I h) λus s1 ⟨vs,H1,I1,r,q⟩=>⟨I1.kIn,?_⟩) l a;exact Ab F d hb hd c I1 r q
theorem Vb{pl:Sem Bool}(y:PE X o ta)(c:Cls X.K C)(g:rP X.K C m f)(F:dI X.prog X.w X.K X.mg X.base CX k f fd ps sp)(n:bA k X.A)(hb:Binds X.K fd ps ds)(hd:aU dvs ds)(i:nC CX X E)(z:PA X (e::es) t)
  (b:starEach (e::es) X.env=(false,eval e X.env)::starEach es X.env:=by rfl) (d:(backTo pos (starEach es X.env)).any (·.1)=false:=by rfl)
  (j:eval (.Call (.Attribute o m apos) (e::es) [] pos) X.env=(do
   let ov <-eval o X.env
   standAt apos.atName
   let (f,first) <-holding [ov] (getMethod ov m pl)
   callWith pos f first (backTo pos (starEach (e::es) X.env)) (backToKw pos (keywordEach [] X.env))):=by rfl):
  PE X (.Call (.Attribute o m apos) (e::es) [] pos) (Aa C m sp dvs E ta t):=by
 intro pins s σ H Q I h;refine PySem.W.methodCall_KW (pl:=pl) (thn (y pins s σ H _ I h) λu s1 ⟨x,H1,I1,rx,a,dx,fs,ex,ea,l,q⟩=>?_) j;subst ex;obtain rfl:u=Value.ref a:=rx;refine IW I1 ea c g l ?_;refine PySem.W.callWith_K (first:=[.ref a]) (h₀:=X.base) I.ok.mod.kin g.kp (thn (z pos pins s1 σ H1 _ I1 q) λus s2 ⟨vs,H2,I2,r,q2⟩=>⟨I2.kIn,?_⟩) b d;exact Ab (us:=.ref a::us) (vs:=.ref a::vs) F n hb hd i I2 (.cons rfl r) q2
theorem Vc{pl:Sem Bool}(j:PE X o ta)(c:Cls X.K C)(b:rP X.K C m f)(F:dI X.prog X.w X.K X.mg X.base CX k f fd ps sp)(i:bA k X.A)(hb:Binds X.K fd ps ds)(hd:aU dvs ds)(d:nC CX X E)
  (g:eval (.Call (.Attribute o m apos) [] [] pos) X.env=(do
   let ov <-eval o X.env
   standAt apos.atName
   let (f,first) <-holding [ov] (getMethod ov m pl)
   callWith pos f first (backTo pos (starEach [] X.env)) (backToKw pos (keywordEach [] X.env))):=by rfl):
  PE X (.Call (.Attribute o m apos) [] [] pos) (Aa C m sp dvs E ta Ja):=by
 intro pins s σ H Q I h;refine PySem.W.methodCall_KW (pl:=pl) (thn (j pins s σ H _ I h) λu s1 ⟨x,H1,I1,rx,a,dx,fs,ex,ea,l,q⟩=>?_) g;subst ex;obtain rfl:u=Value.ref a:=rx;refine IW I1 ea c b l ?_;exact PySem.W.callWith_K0 (first:=[.ref a]) I1.kIn b.kp (Ab (us:=[.ref a]) (vs:=[.ref a]) F i hb hd d I1 (.cons rfl .nil) q)
structure Mk(K:PySem.W.Frag)(C f:Addr):Prop where
 makes:PySem.W.makesIn K C=true
 init:PySem.W.findIn K (.ref C) "__init__" = some (some (.ref f))
 fn:PySem.W.isFn K (.ref f)=true
 kp:PySem.W.keepIn K (.ref C)=true
theorem Vd{pins:List (Addr×Obj)}{σ:St}{H:Hp}{s:Shared}{Q:VK}{us:List Value}{vs:List V}(M:Mk X.K C f)(F:dI X.prog X.w X.K X.mg X.base CX k f fd ps sp)(q:bA (k+1) X.A)(hb:Binds X.K fd ps ds)(hd:aU dvs ds)
  (n:nC CX X E) (I:Inv X pins σ H s) (r:aU vs us)
  (h:∀x b,H x=none->H b=none->b≠x->sp (.ref x::(vs++dvs)) (upd (upd H b (.own x)) x (.ins C b [])) (λv G=>v=.non/\Q (.ref x) G) E):
  wpAny (model X.prog X.w) X.A (call (.ref C) us) (EP X pins σ Q) X.xe s:=by
 have g:=h (s.heap.objs.size+1) s.heap.objs.size (I.hok.fresh (Nat.le_succ _)) (I.hok.fresh (zb _)) (zy (je _));have c:=Inv.made (C:=C) I;have d:aU (V.ref (s.heap.objs.size+1)::(vs++dvs)) (Value.ref (s.heap.objs.size+1)::(us++ds)):=.cons rfl (r.append hd)
 have y:(Value.ref (s.heap.objs.size+1)::us++ds).length=ps.length:=by
  have e:=d.length;rw[F.len _ _ _ _ g] at e;exact e.symm
 refine wpAny_call (Uy (f:=f) I.kIn M.makes M.init (beq_iff_eq.mp M.fn) (codeAny_mono (F.run _ X.stack _ _ ⟨Value.ref (s.heap.objs.size+1)::us,[]⟩ (Value.ref (s.heap.objs.size+1)::(us++ds)) _ _ E (q.make C us [])
  (c.env0.make C us []) (hb _ (Value.ref (s.heap.objs.size+1)::us) c.kIn y) d g) λr i a=>?_))
 cases r with
 |error e=>exact n pins σ _ _ e i c a
 |ok fl =>
  cases fl with
  |ret u =>
   obtain⟨v,J,B,j,z,l⟩:=c.after a;subst z;exact⟨j,⟨V.ref (s.heap.objs.size+1),J,B,rfl,l⟩⟩
  |next=>exact False.elim a
  |brk=>exact False.elim a
  |cont=>exact False.elim a
theorem Ve(M:Mk X.K C f)(F:dI X.prog X.w X.K X.mg X.base CX k f fd ps sp)(d:bA (k+1) X.A)(i:Gl X x)(g:X.mg x=some (.ref C))(hb:Binds X.K fd ps ds)(hd:aU dvs ds)(c:nC CX X E)
  (l:PA X (e::es) t) (b:(x == ("__debug__":Str))=false:=by decide) (j:starEach (e::es) X.env=(false,eval e X.env)::starEach es X.env:=by rfl) (a:(backTo pos (starEach es X.env)).any (·.1)=false:=by rfl):
  PE X (.Call (.Name x p) (e::es) [] pos) (Jb C sp dvs E t):=by
 intro pins s σ H Q I h;refine wpAny_Call_Name_kw (yO I i g ?_ b);refine PySem.W.callWith_K (h₀:=X.base) I.ok.mod.kin M.kp (thn (l pos pins s σ H _ I h) λus s1 ⟨vs,H1,I1,r,q⟩=>⟨I1.kIn,?_⟩) j a;exact Vd M F d hb hd c I1 r q
end
section
variable {X:Cx}{CX:CXT}{k:Nat}{f C:Addr}{fd:FuncData}{ps ks:List Str}{sp:Sp}{E:XK}{x m:Str}{p pos apos kpos:Pos}{e o:Expr}{es:List Expr}{kws:List Keyword}{te ta:TE}{t tk:TA}{nm:Option Str}
structure QBC(K:PySem.W.Frag)(fd:FuncData)(ps ks:List Str)(g:List Value->List Value->List Value)(gV:List V->List V->List V):Prop where
 to:∀(s:Shared) (us ws:List Value),K.In s.heap->(g us ws).length=ps.length->BindsTo s fd ⟨us,ks.zip ws⟩ (ps.zip (g us ws))
 rel:∀{vs:List V}{us:List Value}{zs:List V}{ws:List Value},aU vs us->aU zs ws->aU (gV vs zs) (g us ws)
variable {g:List Value->List Value->List Value}{gV:List V->List V->List V}
end
structure bB(N P:List Str)(sc:Scope):Prop where
 kind:sc.kind=.function
 co:sc.isCoroutine=false
 gen:sc.isGenerator=false
 nd:N.Nodup
 pre:N.take P.length=P
 par:∀x∈P,sc.names.lookup x=some .local\/sc.names.lookup x=some .cell
 nofree:∀y∈sc.names,y.2≠.free
theorem Jc{kindOf:Str->Option NameKind}{x:Str}:∀{binds:List (Str×Value)}{m:Str->Option Value},(∀v,(x,v)∉binds)->bindL kindOf binds m x=m x
 | [],_,_=>rfl
 | (n,v)::r,m,h=>by
  unfold bindL;rw[Jc λw hw=>h w (zt _ hw)]
  split
  ·have:x≠n:=by rintro rfl;exact h v zp
   simp[this]
  ·rfl
theorem Jd{kindOf:Str->Option NameKind}{x:Str}:∀{binds:List (Str×Value)}{m:Str->Option Value},(∀v,(x,v)∉binds)->bindC kindOf binds m x=m x
 | [],_,_=>rfl
 | (n,v)::r,m,h=>by
  unfold bindC;rw[Jd λw hw=>h w (zt _ hw)]
  split
  ·rfl
  ·have:x≠n:=by rintro rfl;exact h v zp
   simp[this]
theorem Je{kindOf:Str->Option NameKind}{x:Str}{v:Value}:∀{P:List Str}{vs:List Value}{i:Nat}{m:Str->Option Value},P.Nodup->P[i]?=some x->vs[i]?=some v->kindOf x=some .local ->
  bindL kindOf (P.zip vs) m x=some v
 | [],_,_,_,_,h,_,_=>by simp at h
 | _::_,[],_,_,_,_,h,_=>by simp at h
 |p::P,w::vs,0,m,nd,h1,h2,hk=>by
  simp at h1 h2;subst h1;subst h2
  show bindL kindOf ((p,w)::P.zip vs) m p=_;unfold bindL;rw[Jc λv a=>(List.nodup_cons.mp nd).1 (List.of_mem_zip a).1,if_pos hk];simp
 |p::P,w::vs,i+1,m,nd,h1,h2,hk=>by
  show bindL kindOf ((p,w)::P.zip vs) m x=_;unfold bindL;exact Je (i:=i) (List.nodup_cons.mp nd).2 (by simpa using h1) (by simpa using h2) hk
theorem Jf{kindOf:Str->Option NameKind}{x:Str}{v:Value}:∀{P:List Str}{vs:List Value}{i:Nat}{m:Str->Option Value},P.Nodup->P[i]?=some x->vs[i]?=some v->kindOf x≠some .local ->
  bindC kindOf (P.zip vs) m x=some v
 | [],_,_,_,_,h,_,_=>by simp at h
 | _::_,[],_,_,_,_,h,_=>by simp at h
 |p::P,w::vs,0,m,nd,h1,h2,hk=>by
  simp at h1 h2;subst h1;subst h2
  show bindC kindOf ((p,w)::P.zip vs) m p=_;unfold bindC;rw[Jd λv a=>(List.nodup_cons.mp nd).1 (List.of_mem_zip a).1,if_neg hk];simp
 |p::P,w::vs,i+1,m,nd,h1,h2,hk=>by
  show bindC kindOf ((p,w)::P.zip vs) m x=_;unfold bindC;exact Jf (i:=i) (List.nodup_cons.mp nd).2 (by simpa using h1) (by simpa using h2) hk
def start(N:List Str)(vs:List V):St:=vs.map some++List.replicate (N.length - vs.length) none
def iI(CX:CXT)(P:Program)(w:World)(K:PySem.W.Frag)(mg:Str->Option Value)(base:Heap)(N:List Str)(qual:Str)(scope:Scope)(f:Addr)(cd:Value)(A:Around)(outer:List Env)(s:Shared)(H:Hp)(E:XK):Cx where
 prog:=P
 w:=w
 K:=K
 mg:=mg
 base:=base
 A:=A.deeper (envOfC qual scope s.heap.objs.size f cd)
 N:=N
 s₀:=s
 H₀:=H
 env:=envOfC qual scope s.heap.objs.size f cd
 outer:=outer
 stack:=envOfC qual scope s.heap.objs.size f cd::outer
 ex:=[]
 calm:=true
 fn:=λ_=>true
 pn:=[]
 xe:=λe s'=>wpAny (model P w) (A.deeper (envOfC qual scope s.heap.objs.size f cd)) (leaving (envOfC qual scope s.heap.objs.size f cd) e) (λ_ s''=>CX outer H s E e s'') (λe' s''=>CX outer H s E e' s'') s'
theorem Jg{sc:Scope}{n:Nat}{x:Str}(h:sc.names.lookup x=some .cell):∃c,(cellsFrom n sc.names []).lookup x=some c:=by
 have q:=PySem.W.cellsFrom_some sc.names n [] (.inl h);exact Option.isSome_iff_exists.mp q
theorem Vf{CX:CXT}{P:Program}{w:World}{K:PySem.W.Frag}{mg:Str->Option Value}{base:Heap}{N ps:List Str}{qual:Str}{scope:Scope}{f:Addr}{B:Value}{A:Around}{outer:List Env}{s C:Shared}{H:Hp}{E:XK}{us:List Value}{vs:List V}
  (S:bB N ps scope) (hd:A.handled=none) (d:lM P w K mg base A outer s H) (O:vs.length=ps.length) (r:aU vs us)
  (x:InCallC s s.heap.objs.size (bindL (envOfC qual scope s.heap.objs.size f B).kindOf (ps.zip us) λ_=>none) (cellsFrom (s.heap.objs.size+1) scope.names []) (bindC (envOfC qual scope s.heap.objs.size f B).kindOf (ps.zip us) λ_=>none) C):
  Inv (iI CX P w K mg base N qual scope f B A outer s H E) [] (start N vs) H C:=by
 have L:ps.length<=N.length:=by have:=congrArg List.length S.pre;rw[List.length_take] at this;omega
 obtain⟨h1,tk,rfl,G⟩:=x.done
 have j:∀b:Addr,b∉(iI CX P w K mg base N qual scope f B A outer s H E).ex:=λb z=>absurd (show b∈([]:List Addr) from z) (by simp)
 refine⟨⟨d.mod,S.kind,rfl,rfl,zb _,λy z c h1 h2=>?_,λy g=>?_,λy c _ h=>?_,λ_=>hd,Around.frames_deeper d.frames,.inr ⟨rfl,rfl⟩,λb z=>absurd z (j b),d.bs,d.bsz,λb _ _=>j b,λb z=>absurd z (j b),d.funs,d.frf⟩,
  rfl,d.bare,Un.kept G,⟨_,x.toInCall.ns,λi y v h1 h2 h3=>?_⟩,λy c h=>⟨_,x.cell y c h⟩,d.hok.fresh (zb _),λy c h=>?_,λp l=>absurd (show p∈([]:List (Addr×Obj)) from l) (by simp),d.hok.kept G,?_⟩
 ·exact name_of_addr x.apart (PySem.mem_of_lookup h1) (PySem.mem_of_lookup h2)
 ·have g:scope.names.lookup y=some .cell\/scope.names.lookup y=some .free:=g
  rcases g with g | g
  ·exact Jg g
  ·exact absurd rfl (S.nofree _ (PySem.mem_of_lookup g))
 ·exact Nat.le_of_lt (x.above y c (PySem.mem_of_lookup h))
 ·have hi:i<vs.length:=by
   unfold start at h2
   by_cases hi:i<vs.length
   ·exact hi
   ·rw[zC (by simpa using hi)] at h2;rw[List.getElem?_replicate] at h2
    split at h2<;>cases h2
  have J:vs[i]?=some v:=by
   unfold start at h2;rw[zA (by simpa using hi),zF] at h2
   cases e:vs[i]? with
   |none=>rw[e] at h2;cases h2
   |some a=>rw[e] at h2;cases h2;rfl
  obtain⟨u,F,I⟩:=r.get J
  have l:ps[i]?=some y:=by
   rw[<-S.pre,List.getElem?_take_of_lt (by omega)];exact h1
  have m:ps.Nodup:=by rw[<-S.pre];exact S.nd.sublist (List.take_sublist _ _)
  refine⟨u,I,?_⟩
  rcases S.par y (zR l) with k | k
  ·exact .inl ⟨k,Je m l F k⟩
  ·obtain⟨c,e⟩:=Jg (n:=s.heap.objs.size+1) k;refine .inr ⟨.inl k,c,e,?_⟩;have q:=x.cell y c e;rw[Jf m l F (by show scope.names.lookup y≠_;rw[k];decide)] at q;exact q
 ·exact d.hok.fresh (Nat.le_of_lt (x.above y c (PySem.mem_of_lookup h)))
 ·unfold start;show _=N.length;rw[zn,zd,List.length_replicate];omega
theorem Vg{CX:CXT}{P:Program}{w:World}{K:PySem.W.Frag}{mg:Str->Option Value}{base:Heap}{k:Nat}{f:Addr}{name qual:Str}{params:Arguments}{body:List Stmt}{scope:Scope}{T kV z pm a ct oc:Value}{U Z:Option Addr}
  {G:Array (Option Value)}{N ps:List Str}{sp:Sp} (lk:K.lookup f=some ⟨oc,Z,.func (PySem.W.fnOf name qual params body scope T kV z pm U a ct),G⟩) (O:PySem.W.codeIn K a qual=true) (S:bB N ps scope)
  (len:∀vs H Q E,sp vs H Q E->vs.length=ps.length)
  (h:∀(A:Around) (outer:List Env) (s:Shared) (H:Hp) (vs:List V) (Q:VK) (E:XK),bA k (A.deeper (envOfC qual scope s.heap.objs.size f a))->sp vs H Q E ->
   ∃t,PSs (iI CX P w K mg base N qual scope f a A outer s H E) body t/\t {nx:=λ_ d=>Q .non d,rt:=Q} (start N vs) H):
  dI P w K mg base CX (k+1) f (PySem.W.fnOf name qual params body scope T kV z pm U a ct) ps sp:=by
 refine⟨len,λA outer s H args Y vs Q E F j hb r l=>?_⟩;have hl:=len _ _ _ _ l
 have X:K.In s.heap:=j.mod.kin.keeps λb o e=>(j.bs b o e).1
 have L:s.heap.NoLimit:=j.mod.nolimit.keeps λb o e=>(j.bs b o e).1
 have g:∀y∈ps.zip Y,scope.names.lookup y.1=some .local\/(scope.names.lookup y.1=some .cell/\((cellsFrom (s.heap.objs.size+1) scope.names []).lookup y.1).isSome=true):=λ⟨n,v⟩ hy=>by
  rcases S.par n (List.of_mem_zip hy).1 with q | q
  ·exact .inl q
  ·exact .inr ⟨q,PySem.W.cellsFrom_some _ _ _ (.inl q)⟩
 refine codeAny_call_function F.depth (X _ _ lk) rfl S.co S.gen rfl (PySem.W.codeRec_of X O) (hb _ _ _ _ ?_)
 refine wpAny_newFunctionEnv_cells S.kind g λenv he R x=>?_
 subst he;refine⟨L.keeps x.toInCall.keep,codeAny_func ?_⟩;obtain⟨t,ht,hq⟩:=h A outer s H vs Q E (F.deeper _) l;have I:Inv (iI CX P w K mg base N qual scope f a A outer s H E) [] (start N vs) H R:=Vf S F.hd j hl r x
 refine zT (ht [] R (start N vs) H _ I hq) (λfl B i=>?_) λe B i=>i
 have m:∀{c:St}{d:Hp}{v:V}{u:Value},Inv (iI CX P w K mg base N qual scope f a A outer s H E) [] c d B->RelV v u->Q v d->CE outer P w H s Q u B :=
  λ{c d v u} J C q=>⟨v,d,J.os,J.bare,J.base,J.hok,C,q⟩
 cases fl with
 |ret u =>
  obtain⟨v,c,d,J,C,q⟩:=i;exact m J C q
 |next =>
  obtain⟨c,d,J,q⟩:=i;exact m (v:=V.non) (u:=Value.none) J rfl q
 |brk =>
  obtain⟨_,_,_,q⟩:=i;exact False.elim q
 |cont =>
  obtain⟨_,_,_,q⟩:=i;exact False.elim q
section
variable {X:Cx}{x:Str}{p pos:Pos}{e:Expr}{es:List Expr}{t:TA}{id T:String}{r:List V->Hp->VK->Prop}
def tCB(r:List V->Hp->VK->Prop)(t:TA):TE:=λσ H Q=>t σ H λa b=>r a b Q
theorem Jh(i:gU X (.builtin id) r)(f:Gl X x)(d:X.mg x=none)(hv:bootBuiltins x=some (.builtin id))(j:PA X (e::es) t)(c:x≠"__name__":=by decide)(b:(x == ("__debug__":Str))=false:=by decide)
  (g:starEach (e::es) X.env=(false,eval e X.env)::starEach es X.env:=by rfl) (a:(backTo pos (starEach es X.env)).any (·.1)=false:=by rfl):PE X (.Call (.Name x p) (e::es) [] pos) (tCB r t):=by
 intro pins s σ H Q I h;refine wpAny_Call_Name_kw (jA I f d hv ?_ c b);exact PyProof.Rows.callWith_builtin1 (thn (j pos pins s σ H _ I h) λus s1 ⟨vs,H1,I1,r1,q1⟩=>i pins s1 σ H1 vs us Q I1 r1 q1) g a
theorem Vh(i:gU X (.type T) r)(f:Gl X x)(d:X.mg x=none)(hv:bootBuiltins x=some (.type T))(j:PA X (e::es) t)(c:x≠"__name__":=by decide)(b:(x == ("__debug__":Str))=false:=by decide)
  (g:starEach (e::es) X.env=(false,eval e X.env)::starEach es X.env:=by rfl) (a:(backTo pos (starEach es X.env)).any (·.1)=false:=by rfl):PE X (.Call (.Name x p) (e::es) [] pos) (tCB r t):=by
 intro pins s σ H Q I h;refine wpAny_Call_Name_kw (jA I f d hv ?_ c b);exact PyProof.Rows.callWith_type1 (thn (j pos pins s σ H _ I h) λus s1 ⟨vs,H1,I1,r1,q1⟩=>i pins s1 σ H1 vs us Q I1 r1 q1) g a
end
end L2
namespace HT
open PySem PyProof.Rows
section
open PySem.SeqAt
open PySem.AutoSeq1 (wpAny_loadPart')
open PySem.MeetsSeq PySem.MeetsSeq2 PySem.MeetsSeq3
end
section
variable {prog:Program}{w:World}{A:Around}{E:Value->Shared->Prop}{s:Shared}
theorem cat_tup{t b:Addr}{vs a:List Value}{Q:Value->Shared->Prop}(r:IsTup s.heap t vs.toArray)(hb:IsTup s.heap b a.toArray)(hv:vs≠[])
  (h1:a=[]->Q (.ref t) s) (h2:a≠[]->Q (.ref s.heap.objs.size) {s with heap:=s.heap.push {cls:=.type "tuple",data:=.seq (vs++a).toArray}})
  (hsz:vs.length+a.length<=sizeLine):wpAny (model prog w) A (binaryOp .Add (.ref t) (.ref b)) Q E s:=by
 obtain⟨⟨cls,m,data,sl⟩,i,l,n,hd⟩:=id r;obtain⟨⟨q,h,data2,d⟩,c,g,j,f⟩:=id hb;simp only at l hd g f;subst l hd g f
 have e:vs.toArray++a.toArray=(vs++a).toArray:=by simp
 by_cases hw:a=[]
 ·exact concat_meets ⟨_,i,rfl⟩ ⟨_,c,rfl⟩ noFill_tuple_add seq_tuple_add PySem.F.slot_tuple_add PySem.F.entry_tuple_add (PySem.F.args_tuple_add_2 _ _)
   (tuple_addW1 t b vs.toArray a.toArray n j m h sl d (by simpa using hv) (by simp[hw])) ⟨i,c,h1 hw⟩
 ·refine concat_meets ⟨_,i,rfl⟩ ⟨_,c,rfl⟩ noFill_tuple_add seq_tuple_add PySem.F.slot_tuple_add PySem.F.entry_tuple_add (PySem.F.args_tuple_add_2 _ _)
   (tuple_addW2 t b vs.toArray a.toArray n j m h sl d (by simpa using hv) (by simpa using hw) (by rw[zr,zr];exact hsz)) ⟨i,c,?_⟩
  rw[e];exact h2 hw
def sIx(n d:Nat):Option Int->Nat
 |none=>d
 |some v=>if v<0 then(v+(n:Int)).toNat else min v.toNat n
theorem sIx_none(n d:Nat):sIx n d none=d:=rfl
theorem sIx_nat(n d k:Nat):sIx n d (some (k:Int))=min k n:=by
 show(if(k:Int)<0 then((k:Int)+(n:Int)).toNat else min (k:Int).toNat n)=min k n;rw[if_neg (by omega),Int.toNat_natCast]
theorem sIx_le(n d:Nat)(hd:d<=n)(o:Option Int):sIx n d o<=n:=by
 cases o with
 |none=>exact hd
 |some v =>
  show(if v<0 then(v+(n:Int)).toNat else min v.toNat n)<=n
  by_cases a:v<0
  ·rw[if_pos a];omega
  ·rw[if_neg a];exact Nat.min_le_right _ _
theorem Ji(v:Int)(n d:Nat):(if v<0 then max (v+(n:Int)) 0 else min v (n:Int))=((sIx n d (some v):Nat):Int):=by
 show(if v<0 then max (v+(n:Int)) 0 else min v (n:Int))=(((if v<0 then(v+(n:Int)).toNat else min v.toNat n):Nat):Int)
 by_cases a:v<0
 ·simp only[if_pos a];omega
 ·simp only[if_neg a];omega
theorem Vi(lo hi:Option Int)(n:Nat):Builtin.Slice.sliceAdjust lo hi 1 (n:Int)=(((sIx n 0 lo:Nat):Int),((sIx n n hi:Nat):Int)):=by
 have h1:¬((1:Int)<0):=by omega
 unfold Builtin.Slice.sliceAdjust;simp only[h1,if_false];refine Prod.ext ?_ ?_
 ·cases lo with
  |none=>rfl
  |some v=>exact Ji v n 0
 ·cases hi with
  |none=>rfl
  |some v=>exact Ji v n n
theorem Vj(i j:Nat):Builtin.Slice.slicePlaces (i:Int) (j:Int) 1=j - i:=by
 unfold Builtin.Slice.slicePlaces
 have h1:(1:Int)>0:=by omega
 simp only[h1,if_true,Int.ediv_one]
 split<;>omega
theorem Jj{v:Value}{o:Option Int}{Q:Option Int->Shared->Prop}(p:IsPart v o)(h:Q o s):wpAny (model prog w) A (Builtin.Slice.slicePartIndex v) Q E s:=by
 cases p with
 |none=>exact slicePart_none h
 |int i t=>exact slicePart_int h
theorem sliceApplied_gen{sl:Addr}{vl c:Value}{lo hi:Option Int}{n:Nat}{Q:Int×Int×Nat->Shared->Prop}(d:s.heap.IsSliceOf sl vl c .none)(pl:IsPart vl lo)(pu:IsPart c hi)
  (h:Q (((sIx n 0 lo:Nat):Int),1,sIx n n hi - sIx n 0 lo) s):wpAny (model prog w) A (Builtin.Slice.sliceApplied (.ref sl) (pure (n:Int))) Q E s:=by
 obtain⟨os,a,f,b⟩:=id d;unfold Builtin.Slice.sliceApplied Builtin.Slice.sliceFields;refine za (za (wpAny_field a b (x:=vl) rfl (za (wpAny_field a b (x:=c) rfl (za (wpAny_field a b (x:=.none) rfl (zc ?_)))))));refine za (slicePart_none ?_);show wpAny _ _ (if((1:Int) == 0)=true then _ else _) _ _ s;rw[if_neg (by decide)];refine za (Jj pl (za (Jj pu (za (zc ?_)))));show wpAny _ _ (match Builtin.Slice.sliceAdjust lo hi 1 (n:Int) with | (lo,hi)=>pure (lo,(1:Int),Builtin.Slice.slicePlaces lo hi 1)) _ _ s;rw[Vi lo hi n];show wpAny _ _ (pure (((sIx n 0 lo:Nat):Int),(1:Int),Builtin.Slice.slicePlaces ((sIx n 0 lo:Nat):Int) ((sIx n n hi:Nat):Int) 1)) _ _ s
 rw[Vj];exact zc h
theorem Vk(xs:Array Value)(i k:Nat):((List.range k).filterMap λ(m:Nat)=>xs[((i:Int)+(m:Int) * 1).toNat]?).toArray=((xs.toList.drop i).take k).toArray:=by
 have e:(λ(m:Nat)=>xs[((i:Int)+(m:Int) * 1).toNat]?)=λm=>xs[i+m]?:=by
  funext m
  have:((i:Int)+(m:Int) * 1).toNat=i+m:=by omega
  rw[this]
 rw[e]
 have:=pick_run xs i k
 rw[List.filterMap_map] at this
 have a:((λx=>xs[x]?) ∘ λx=>i+x)=λm=>xs[i+m]?:=rfl
 rw[a] at this;rw[this]
theorem getItem_tuple_cut{t sl:Addr}{items:Array Value}{vl i:Value}{lo hi:Option Int}{Q:Value->Shared->Prop}(b:IsTup s.heap t items)(j:s.heap.IsSliceOf sl vl i .none)(pl:IsPart vl lo)(pu:IsPart i hi)
  (hw:¬(sIx items.size 0 lo=0/\sIx items.size items.size hi=items.size))
  (h:Q (.ref s.heap.objs.size) {s with heap:=s.heap.push {cls:=.type "tuple",data:=.seq ((items.toList.drop (sIx items.size 0 lo)).take (sIx items.size items.size hi - sIx items.size 0 lo)).toArray}})
  (hsz:items.size<=sizeLine):wpAny (model prog w) A (getItem (.ref t) (.ref sl)) Q E s:=by
 have a:sizeOk (.seq ((items.toList.drop (sIx items.size 0 lo)).take (sIx items.size items.size hi - sIx items.size 0 lo)).toArray):=by
  show((items.toList.drop (sIx items.size 0 lo)).take (sIx items.size items.size hi - sIx items.size 0 lo)).toArray.size<=sizeLine;rw[zr,List.length_take,List.length_drop,Array.length_toList];omega
 have u:sIx items.size items.size hi<=items.size:=sIx_le _ _ (zb _) hi;obtain⟨os,c,f,l⟩:=id j;have g:s.TypeIs (.ref sl) "slice":=⟨os,c,f⟩;unfold getItem
 try with_reducible refine zZ ?_
 first | refine za (zc ?_) | skip
 refine za (wpAny_sequenceKey b.typeIs (by decide) ?_)
 refine za (wpAny_callSpecial?_slot (name:=Str.ofString "__getitem__") b.typeIs PyProof.Rows.slot_tuple_getitem
  (wpAny_call_entry PyProof.Rows.slot_tuple_getitem b.typeIs entry_tuple_getitem ?_ (args_tuple_getitem _ _)))
 show wpAny _ _ (Builtin.Tuple.tupleItemsOf (.ref t) >>= _) _ _ s;refine za (tupleItemsOf_ b ?_);refine za (wpAny_typeOf g ?_);rw[if_pos (by decide)];refine za (sliceApplied_gen j pl pu ?_)
 have d:¬((((sIx items.size 0 lo:Nat):Int) == 0&&(1:Int) == 1&&(sIx items.size items.size hi - sIx items.size 0 lo) == items.size)=true):=by
  intro q;rw[zu,zu] at q;have r:((sIx items.size 0 lo:Nat):Int)=0:=eq_of_beq q.1.1;have n:sIx items.size items.size hi - sIx items.size 0 lo=items.size:=eq_of_beq q.2;exact hw ⟨by omega,by omega⟩
 show wpAny _ _ (if(((sIx items.size 0 lo:Nat):Int) == 0&&(1:Int) == 1&&(sIx items.size items.size hi - sIx items.size 0 lo) == items.size)=true then _ else _) _ _ s;rw[if_neg d,Vk]
 first
  | exact za (m:=Builtin.Tuple.tupleExact _) (wpAny_newObj_type (zc ⟨_,rfl,zc h⟩) a)
  | exact za (m:=Builtin.Tuple.tupleExact _) (wpAny_newObj_type (za (zc (zc ⟨_,rfl,zc h⟩))) a)
  | exact za (za (m:=Builtin.Tuple.tupleExact _) (wpAny_newObj_type (zc (zc ⟨_,rfl,zc h⟩)) a))
  | exact za (za (m:=Builtin.Tuple.tupleExact _) (wpAny_newObj_type (zc ⟨_,rfl,zc h⟩) a))
end
end HT
namespace L2
open PySem PySem.Spec PyProof.Rows
abbrev TO:=St->Hp->(Option Int->Hp->Prop)->Prop
def PO(X:Cx)(e:Option Expr)(t:TO):Prop :=
 ∀(pins:List (Addr×Obj)) (s:Shared) (σ:St) (H:Hp) (Q:Option Int->Hp->Prop),Inv X pins σ H s->t σ H Q ->
  wpAny (model X.prog X.w) X.A (evalPart e X.env) (λu b=>∃o a,Inv X pins σ a b/\IsPart u o/\Q o a) X.xe s
def Vl:TO:=λ_ H Q=>Q none H
def Vm(t:TE):TO:=λσ H Q=>t σ H λx a=>∃i,x=.int i/\Q (some i) a
theorem intsAre_of{ns:List Int}:∀{us:List Value},aU (ns.map V.int) us->IntsAre us ns:=by
 induction ns with
 |nil=>intro us r;rw[zO] at r;cases r;exact .nil
 |cons n ns ih =>
  intro us r;rw[ze] at r
  cases r with
  |cons r1 r2 =>
   obtain⟨t,e⟩:=r1;subst e;exact .cons n t (ih r2)
section
variable {X:Cx}{e:Expr}{te:TE}{lo hi:Option Expr}{tl th:TO}{pos p2:Pos}
theorem Vn:PO X none Vl:=by
 intro pins s σ H Q I h;rw[evalPart_none];exact zc ⟨none,H,I,.none,h⟩
theorem Vo(h:PE X e te):PO X (some e) (Vm te):=by
 intro pins s σ H Q I hw;rw[evalPart_some]
 refine thn (h pins s σ H _ I hw) λu s1 ⟨x,H1,I1,r1,q1⟩=>?_
 obtain⟨i,rfl,q⟩:=q1;obtain⟨t,rfl⟩:=r1;exact⟨some i,H1,I1,.int i t,q⟩
def SlR(X:Cx)(r:V->Option Int->Option Int->Hp->VK->Prop):Prop :=
 ∀(pins:List (Addr×Obj)) (s:Shared) (σ:St) (H:Hp) (x:V) (v vl a:Value) (lo hi:Option Int) (sl:Addr) (Q:VK),Inv X pins σ H s->RelV x v->s.heap.IsSliceOf sl vl a .none->IsPart vl lo->IsPart a hi->r x lo hi H Q ->
  ∃T b,typeLookup (.type T) "__getitem__" = pure (some (.builtin b))/\s.TypeIs v T/\wpAny (model X.prog X.w) X.A (getItem v (.ref sl)) (EP X pins σ Q) X.xe s
def tSl(r:V->Option Int->Option Int->Hp->VK->Prop)(te:TE)(tl th:TO):TE:=λσ H Q=>te σ H λx c=>tl σ c λl b=>th σ b λu a=>r x l u a Q
theorem Vp{r:V->Option Int->Option Int->Hp->VK->Prop}(d:SlR X r)(i:PE X e te)(f:PO X lo tl)(a:PO X hi th):PE X (.Subscript e (.Slice lo hi none p2) pos) (tSl r te tl th):=by
 intro pins s σ H Q I h;refine Subscript_ (thn (i pins s σ H _ I h) λv s1 ⟨x,H1,I1,r1,q1⟩=>?_);refine wpAny_Slice (thn (f pins s1 σ H1 _ I1 q1) λvl s2 ⟨l,H2,I2,pl,q2⟩=>thn (a pins s2 σ H2 _ I2 q2) λvu s3 ⟨u,H3,I3,pu,q3⟩=>?_);rw[evalPart_none];refine zc ?_
 have m:Inv X pins σ H3 {s3 with heap:=s3.heap.push {cls:=.type "slice",data:=.fields #[vl,vu,.none]}}:=I3.kept (t':=s3.toks) λb ob q=>zq _ q
 obtain⟨T,n,j,c,g⟩:=d pins {s3 with heap:=s3.heap.push {cls:=.type "slice",data:=.fields #[vl,vu,.none]}} σ H3 x v vl vu l u s3.heap.objs.size Q m r1 (Heap.IsSliceOf.new ..) pl pu q3;show wpAny (model X.prog X.w) X.A (subscriptTail e (.Slice lo hi none p2) v (.ref s3.heap.objs.size)) (EP X pins σ Q) X.xe {s3 with heap:=s3.heap.push {cls:=.type "slice",data:=.fields #[vl,vu,.none]}};exact tail_any (ops:=[.ref s3.heap.objs.size,v]) c j g (by with_unfolding_all rfl)
def jZ(xs:List V)(lo hi:Option Int):List V:=(xs.drop (HT.sIx xs.length 0 lo)).take (HT.sIx xs.length xs.length hi - HT.sIx xs.length 0 lo)
theorem Jk(xs:List V)(lo hi:Option Int):(jZ xs lo hi).length<=xs.length:=by
 unfold jZ;rw[List.length_take,List.length_drop];omega
def Vq(K:PySem.W.Frag):V->Option Int->Option Int->Hp->VK->Prop:=λx lo hi H Q=>∃a b,x=.ref a/\SqT K H a b /\
 ¬(HT.sIx b.length 0 lo=0/\HT.sIx b.length b.length hi=b.length)/\∀p,H p=none->Q (.ref p) (upd H p (.tup (jZ b lo hi)))
theorem Vr:SlR X (Vq X.K):=by
 intro pins s σ H x v vl n lo hi sl Q I i m j pu h;obtain⟨a,c,rfl,l,hw,q⟩:=h;cases i;obtain⟨d,r,g,f⟩:=I.tuple l
 have hlen:d.toArray.size=c.length:=by rw[zr];exact r.length.symm
 refine⟨"tuple",_,PyProof.Rows.slot_tuple_getitem.lookup,g.typeIs,?_⟩;refine HT.getItem_tuple_cut g m j pu (by rw[hlen];exact hw) ?_ (by rw[hlen];exact f);rw[hlen];refine⟨.ref s.heap.objs.size,_,I.laid (t':=s.toks) (o:=.tup (jZ c lo hi)) (λb ob q=>zq _ q) (zb _) ?_,rfl,q _ (I.hok.fresh (zb _))⟩;exact⟨zM (Jk c lo hi) f,_,(r.drop (HT.sIx c.length 0 lo)).take (HT.sIx c.length c.length hi - HT.sIx c.length 0 lo),IsTup.new _ _⟩
def Vs(K:PySem.W.Frag):R2:=λx y H Q=>∃a b d c,x=.ref a/\y=.ref b/\SqT K H a d/\SqT K H b c/\d≠[]/\d.length+c.length<=sizeLine /\
 (c=[]->Q (.ref a) H)/\(c≠[]->∀p,H p=none->Q (.ref p) (upd H p (.tup (d++c))))
theorem aU.nil_iff{xs:List V}{us:List Value}(r:aU xs us):us=[]↔xs=[]:=by
 cases r with
 |nil=>simp
 |cons _ _=>simp
theorem Vt:OpR X (binaryOp .Add) (Vs X.K):=by
 intro pins s σ H x y v u Q I m l h;obtain⟨a,b,j,i,rfl,rfl,F,E,C,f,r,n⟩:=h;cases m;cases l;obtain⟨G,d,B,_⟩:=I.tuple F;obtain⟨g,c,p2,_⟩:=I.tuple E;refine HT.cat_tup B p2 (λz=>C (d.nil_iff.mp z)) (λz=>⟨.ref a,H,I,rfl,r (c.nil_iff.mp z)⟩) (λz=>?_) (by rw[<-d.length,<-c.length];exact f);refine⟨.ref s.heap.objs.size,_,I.laid (t':=s.toks) (o:=.tup (j++i)) (λb ob q=>zq _ q) (zb _) ?_,rfl,n (λw=>z (c.nil_iff.mpr w)) _ (I.hok.fresh (zb _))⟩;exact⟨by rw[zn];exact f,_,d.append c,IsTup.new _ _⟩
end
def ixN(n:Nat)(i:Int):Option Nat:=if 0<=i then(if i<n then some i.toNat else none) else if -(n:Int)<=i then some (i+n).toNat else none
def atI{α:Type}(xs:List α)(i:Int):Option α:=(ixN xs.length i).bind λj=>xs[j]?
theorem Vu{n:Nat}{i:Int}{j:Nat}(h:ixN n i=some j):seqIndex? i n=some j/\j<n/\-(n:Int)<=i/\i<n:=by
 unfold ixN at h
 by_cases h0:0<=i
 ·rw[if_pos h0] at h
  by_cases h1:i<n
  ·rw[if_pos h1] at h;have e:i.toNat=j:=zB h;exact⟨by rw[seqIndex_of h0 h1,e],by omega,by omega,h1⟩
  ·rw[if_neg h1] at h;cases h
 ·rw[if_neg h0] at h
  by_cases h1:-(n:Int)<=i
  ·rw[if_pos h1] at h;have e:(i+n).toNat=j:=zB h;exact⟨by rw[seqIndex_neg (by omega) h1,e],by omega,h1,by omega⟩
  ·rw[if_neg h1] at h;cases h
theorem Ac{α:Type}{xs:List α}{i:Int}{v:α}(h:atI xs i=some v):∃j,seqIndex? i xs.length=some j/\xs[j]?=some v/\j<xs.length/\-(xs.length:Int)<=i/\i<xs.length:=by
 unfold atI at h
 cases e:ixN xs.length i with
 |none=>rw[e] at h;cases h
 |some j =>
  rw[e] at h;obtain⟨h1,h2,h3,h4⟩:=Vu e;exact⟨j,h1,h,h2,h3,h4⟩
def rR(b:Expr):Prop:=∀o i,subscripted b false o i=operate [o,i] (getItem o i)
def IxR(X:Cx)(r:R2):Prop :=
 ∀(value slice:Expr) (pins:List (Addr×Obj)) (s:Shared) (σ:St) (H:Hp) (x y:V) (v u:Value) (Q:VK),Inv X pins σ H s->RelV x v->RelV y u->r x y H Q ->
  subscripted slice false v u=operate [v,u] (getItem v u)->wpAny (model X.prog X.w) X.A (subscriptTail value slice v u) (EP X pins σ Q) X.xe s
def MtR(X:Cx)(c:String)(r:V->List V->Hp->VK->Prop):Prop :=
 ∀(pins:List (Addr×Obj)) (s:Shared) (σ:St) (H:Hp) (x:V) (a:List V) (v:Value) (b:List Value) (Q:VK),Inv X pins σ H s->RelV x v->aU a b->r x a H Q ->
  wpAny (model X.prog X.w) X.A (call (.builtin c) (v::b)) (EP X pins σ Q) X.xe s
section
variable {X:Cx}{a b:Expr}{ta tb:TE}{pos:Pos}
theorem Vv{r:R2}(i:IxR X r)(j:PE X a ta)(hb:PE X b tb)(g:rR b):PE X (.Subscript a b pos) (tOp r ta tb):=by
 intro pins s σ H Q I h;exact Subscript_ (yS j hb I h λv u c x y m l f d q=>i a b pins c σ m x y v u Q l f d q (g _ _))
def Vw(K:PySem.W.Frag):R2:=λx y H Q=>∃p c i v,x=.ref p/\y=.int i/\SqL K H p c/\atI c i=some v/\Q v H
def Vx(K:PySem.W.Frag):R2:=λx y H Q=>∃p c i v,x=.ref p/\y=.int i/\SqT K H p c/\atI c i=some v/\Q v H
def Vy:R2:=λx y H Q=>∃z i c,x=.str z/\y=.int i/\z.length<=sizeLine/\atI z.cps.toList i=some c/\Q (.str ⟨#[c]⟩) H
theorem Vz:IxR X (Vw X.K):=by
 intro value slice pins s σ H x y v u Q I E C h m;obtain⟨p,O,i,z,rfl,rfl,F,J,q⟩:=h;cases E;obtain⟨t,rfl⟩:=C;obtain⟨l,r,d,P⟩:=I.list F;obtain⟨j,h1,h2,h3,h4,L⟩:=Ac J;obtain⟨w,n,g⟩:=r.get h2;have G:=r.length;have R:=rN;have c:EP X pins σ Q w s:=⟨z,H,I,g,q⟩
 by_cases h0:0<=i
 ·have f:i.toNat=j:=by
   rw[seqIndex_of h0 L] at h1;exact zB h1
  exact item_listR d.isList h0 (by omega) (by rw[f];simpa using n) c m
 ·have f:(i+(l.toArray.size:Int)).toNat=j:=by
   rw[seqIndex_neg (by omega) h4] at h1;rw[zr,<-G];exact zB h1
  exact subscriptTail_builtinR (x:=w) d.isList.typeIs slot_list_getitem.lookup
   (wpAny_getItem_list_neg (Q:=λr B=>r=w/\EP X pins σ Q r B) d.isList (by omega) (by rw[zr]<;>omega) (by omega) (by rw[f];simpa using n) ⟨rfl,c⟩) m
theorem VB:IxR X (Vx X.K):=by
 intro value slice pins s σ H x y v u Q I m l h n;obtain⟨p,J,i,z,rfl,rfl,B,E,q⟩:=h;cases m;obtain⟨t,rfl⟩:=l;obtain⟨G,r,f,L⟩:=I.tuple B;obtain⟨j,h1,h2,h3,h4,P⟩:=Ac E;obtain⟨w,F,c⟩:=r.get h2;have C:=r.length;have O:=rN;have d:EP X pins σ Q w s:=⟨z,H,I,c,q⟩;exact subscriptTail_builtinR (x:=w) f.typeIs slot_tuple_getitem.lookup
  (getItem_tuple (j:=j) (Q:=λr g=>r=w/\EP X pins σ Q r g) f (by omega) (by omega) (by rw[zr,<-C];exact h1) (by simpa using F) ⟨rfl,d⟩) n
theorem VD:IxR X Vy:=by
 intro value slice pins s σ H x y v u Q I f d h g;obtain⟨z,i,c,rfl,rfl,E,m,q⟩:=h;obtain⟨t,rfl⟩:=f;obtain⟨C,rfl⟩:=d;obtain⟨j,h1,h2,h3,h4,n⟩:=Ac m
 have l:z.cps.toList.length=z.length:=by simp[Str.length]
 rw[l] at h1 h4 n;have F:=rN
 exact tail_any (typeIs_str s z t) slot_str_getitem.lookup (getItem_str (c:=c) (by
  have B:decide (i < -(2 ^ 63:Int))=false:=zf (by omega);have r:decide (i>=2 ^ 63)=false:=zf (by omega)
  rw[B,r,Bool.or_false]) (by rw[h1];simpa using h2) ⟨.str ⟨#[c]⟩,H,I.tok _,⟨_,rfl⟩,q⟩) g
theorem Jl(lo hi:Option Int)(n:Nat):(sliceBounds lo hi none n).1=((HT.sIx n 0 lo:Nat):Int)/\(sliceBounds lo hi none n).2.1=((HT.sIx n n hi:Nat):Int)/\(sliceBounds lo hi none n).2.2=1:=by
 refine⟨?_,?_,rfl⟩
 ·cases lo with
  |none=>simp[sliceBounds,HT.sIx]
  |some i =>
   simp only[sliceBounds,HT.sIx,Option.getD_none,show(1:Int)>0 by decide,if_true]
   by_cases h:i<0
   ·simp only[h,if_true]<;>omega
   ·simp only[h,if_false]<;>omega
 ·cases hi with
  |none=>simp[sliceBounds,HT.sIx]
  |some i =>
   simp only[sliceBounds,HT.sIx,Option.getD_none,show(1:Int)>0 by decide,if_true]
   by_cases h:i<0
   ·simp only[h,if_true]<;>omega
   ·simp only[h,if_false]<;>omega
theorem VF(its:List Value)(lo hi:Option Int):slicePick its.toArray lo hi none=((its.drop (HT.sIx its.length 0 lo)).take (HT.sIx its.length its.length hi - HT.sIx its.length 0 lo)).toArray:=by
 obtain⟨h1,h2,h3⟩:=Jl lo hi its.toArray.size;unfold slicePick;rw[h1,h2,h3]
 simp only[sliceRange_one,pick_run,zr]<;>rfl
def VH(K:PySem.W.Frag):V->Option Int->Option Int->Hp->VK->Prop:=λx lo hi H Q=>∃a c,x=.ref a/\SqL K H a c/\∀p,H p=none->Q (.ref p) (upd H p (.lst (jZ c lo hi)))
theorem VJ:SlR X (VH X.K):=by
 intro pins s σ H x v vl n lo hi sl Q I f l g pu h;obtain⟨a,c,rfl,j,q⟩:=h;cases f;obtain⟨m,r,d,i⟩:=I.list j;have hlen:=r.length;refine⟨"list",_,slot_list_getitem.lookup,d.isList.typeIs,?_⟩;refine wpAny_getItem_list_slice d.isList l g pu .none (by simp) ?_ (by rw[zr]<;>omega);rw[VF,<-hlen];refine⟨.ref s.heap.objs.size,_,I.laid (t':=s.toks) (o:=.lst (jZ c lo hi)) (λb ob q=>zq _ q) (zb _) ?_,rfl,q _ (I.hok.fresh (zb _))⟩;exact⟨zM (Jk c lo hi) i,_,0,(r.drop (HT.sIx c.length 0 lo)).take (HT.sIx c.length c.length hi - HT.sIx c.length 0 lo),zG _ rfl⟩
def jB:V->Bool
 | .non=>true
 | .bl _=>true
 | .int _=>true
 | .str _=>true
 | _=>false
def eqV:V->V->Bool
 | .non,.non=>true
 | .bl a,.bl b=>a == b
 | .bl a,.int b=>(if a then 1 else 0) == b
 | .int a,.bl b=>a == (if b then 1 else 0)
 | .int a,.int b=>a == b
 | .str a,.str b=>a == b
 | _,_=>false
theorem VL{A:Around}{s:Shared}{y x:V}{u v:Value}(f:RelV y u)(c:RelV x v)(h:jB y=true)(g:jB x=true):SeqAt.EqAt A s u v (eqV y x):=by
 cases y with
 |non =>
  cases f
  cases x with
  |non=>cases c;exact SeqAt.EqAt.same _
  |bl b=>cases c;exact SeqAt.EqAt.none_bool b
  |int b=>obtain⟨t,rfl⟩:=c;exact SeqAt.EqAt.none_int b t
  |str b=>obtain⟨t,rfl⟩:=c;exact SeqAt.EqAt.none_str b t
  | _=>exact absurd (show false=true from g) zh
 |bl a =>
  cases f
  cases x with
  |non=>cases c;exact SeqAt.EqAt.bool_none a
  |bl b=>cases c;exact SeqAt.EqAt.bool_bool a b
  |int b=>obtain⟨t,rfl⟩:=c;exact SeqAt.EqAt.bool_int a b t
  |str b=>obtain⟨t,rfl⟩:=c;exact SeqAt.EqAt.bool_str a b t
  | _=>exact absurd (show false=true from g) zh
 |int a =>
  obtain⟨d,rfl⟩:=f
  cases x with
  |non=>cases c;exact SeqAt.EqAt.int_none a d
  |bl b=>cases c;exact SeqAt.EqAt.int_bool a d b
  |int b=>obtain⟨t,rfl⟩:=c;exact SeqAt.EqAt.int_int a d b t
  |str b=>obtain⟨t,rfl⟩:=c;exact SeqAt.EqAt.int_str a d b t
  | _=>exact absurd (show false=true from g) zh
 |str a =>
  obtain⟨d,rfl⟩:=f
  cases x with
  |non=>cases c;exact SeqAt.EqAt.str_none a d
  |bl b=>cases c;exact SeqAt.EqAt.str_bool a d b
  |int b=>obtain⟨t,rfl⟩:=c;exact SeqAt.EqAt.str_int a d b t
  |str b=>obtain⟨t,rfl⟩:=c;exact SeqAt.EqAt.str_str a d b t
  | _=>exact absurd (show false=true from g) zh
 | _=>exact absurd (show false=true from h) zh
def eqU(x:V)(u:Value):Bool:=match u with
 | .none=>eqV .non x
 | .bool b=>eqV (.bl b) x
 | .int i _=>eqV (.int i) x
 | .str z _=>eqV (.str z) x
 | _=>false
theorem Jm{x y:V}{u:Value}(r:RelV y u)(f:jB y=true):eqU x u=eqV y x:=by
 cases y with
 |non=>cases r;rfl
 |bl b=>cases r;rfl
 |int i=>obtain⟨t,rfl⟩:=r;rfl
 |str z=>obtain⟨t,rfl⟩:=r;rfl
 | _=>exact absurd (show false=true from f) zh
theorem Ad{x:V}:∀{xs:List V}{us:List Value},aU xs us->xs.all jB=true->us.any (eqU x)=xs.any λy=>eqV y x
 | _,_,.nil,_=>rfl
 |y::xs,u::us,.cons r t,f=>by
  rw[List.all_cons,zu] at f;rw[List.any_cons,List.any_cons,Jm r f.1,Ad t f.2]
theorem Ae{A:Around}{s:Shared}{x:V}{v:Value}(d:RelV x v)(g:jB x=true):∀{xs:List V}{us:List Value},aU xs us->xs.all jB=true->∀u∈us,SeqAt.EqAt A s u v (eqU x u)
 | _,_,.nil,_=>λu c=>by cases c
 |y::xs,u::us,.cons r t,f=>λh c=>by
  rw[List.all_cons,zu] at f
  rcases zo.mp c with rfl | c
  ·rw[Jm r f.1];exact VL r d f.1 g
  ·exact Ae d g t f.2 h c
def inV(x:V)(xs:List V):Bool:=xs.any λy=>eqV y x
def rIn(K:PySem.W.Frag)(d:Bool):R2:=λx y H Q=>∃p c,y=.ref p/\(SqL K H p c\/SqT K H p c)/\jB x=true/\c.all jB=true/\Q (.bl (if d then !inV x c else inV x c)) H
theorem VM:OpR X (compareOp .In) (rIn X.K false):=by
 intro pins s σ H x y v u Q I g j h;obtain⟨p,m,rfl,d,i,fs,q⟩:=h;cases j
 rcases d with d | d
 ·obtain⟨c,r,f,l⟩:=I.list d;refine SeqAt.in_listAt (eqU x) f.isList (λw hw=>Ae g i r fs w (by simpa using hw)) ⟨.bl _,H,I,rfl,?_⟩;rw[show c.toArray.any (eqU x)=c.any (eqU x) by simp,Ad r fs];exact q
 ·obtain⟨c,r,f,l⟩:=I.tuple d;refine SeqAt.in_tupleAt (eqU x) f (λw hw=>Ae g i r fs w (by simpa using hw)) ⟨.bl _,H,I,rfl,?_⟩;rw[show c.toArray.any (eqU x)=c.any (eqU x) by simp,Ad r fs];exact q
theorem Jo:gU X (.type "list") (λxs H Q=>∃p ys,xs=[.ref p]/\(SqL X.K H p ys\/SqT X.K H p ys)/\∀l,H l=none->Q (.ref l) (upd H l (.lst ys))):=by
 intro pins s σ H xs E Q I r h;obtain⟨p,ys,rfl,j,q⟩:=h;obtain⟨u,rfl,C⟩:=vals1 r;cases C;have m:∀(c:List Value),aU ys c->ys.length<=sizeLine->∀(d:Heap) (g:Nat),(∀b B,s.heap.get? b=some B->d.get? b=some B) ->
   d.get? s.heap.objs.size=some {cls:=.type "list",dict:=none,data:=.seq c.toArray g,slots:=#[]}->EP X pins σ Q (.ref s.heap.objs.size) {s with heap:=d}:=λc f i d g kp e =>
  ⟨.ref s.heap.objs.size,_,I.laid (t':=s.toks) kp (zb _) (show cF X.prog X.w _ d _ (.lst ys) from⟨i,c,g,f,e⟩),rfl,q _ (I.hok.fresh (zb _))⟩
 rcases j with j | j
 ·obtain⟨c,f,x,i⟩:=I.list j;have hlen:=f.length;obtain⟨o,y,z,n,hd⟩:=x.isList;exact call_list_seq p (.inl rfl) y z hd (λd g kp e=>m c f i d g kp e) (by simp only[zr]<;>omega)
 ·obtain⟨c,f,x,i⟩:=I.tuple j;have hlen:=f.length;obtain⟨o,y,z,n,hd⟩:=x;exact call_list_seq p (.inr rfl) y z hd (λd g kp e=>m c f i d g kp e) (by simp only[zr]<;>omega)
def tyV(K:PySem.W.Frag)(T:String)(x:V)(H:Hp):Prop:=match x with
 | .str _=>T = "str"
 | .int _=>T = "int"
 | .ref p=>(T = "list"/\∃d,SqL K H p d)\/(T = "tuple"/\∃o,K.lookup p=some o/\o.cls=.type "tuple"/\o.dict=none) \/
   (T = "dict"/\((∃c,H p=some (.dK c))\/∃c,H p=some (.dT c)))\/(T = "set"/\∃S n,H p=some (.set S n))
 | _=>False
theorem Jp{pins:List (Addr×Obj)}{σ:St}{H:Hp}{s:Shared}{T:String}{x:V}{v:Value}(I:Inv X pins σ H s)(r:RelV x v)(ty:tyV X.K T x H):
  s.TypeIs v T/\∀a,v=.ref a->∃ob,s.heap.get? a=some ob/\ob.dict=none:=by
 cases x with
 |str z =>
  obtain⟨t,rfl⟩:=r;cases(show T = "str" from ty);exact⟨typeIs_str s z t,λ_ e=>nomatch e⟩
 |int i =>
  obtain⟨t,rfl⟩:=r;cases(show T = "int" from ty);exact⟨typeIs_int s i t,λ_ e=>nomatch e⟩
 |ref p =>
  cases r
  rcases ty with⟨rfl,q,j⟩ | ⟨rfl,o,d,l,hd⟩ | ⟨rfl,d⟩ | ⟨rfl,S,n,d⟩
  ·obtain⟨m,_,h,_⟩:=I.list j;refine⟨h.isList.typeIs,λa e=>?_⟩;cases e;obtain⟨o,n,e,c,hd,_⟩:=h;exact⟨o,e,hd⟩
  ·refine⟨⟨o,I.kIn p o d,l⟩,λa e=>?_⟩;cases e;exact⟨o,I.kIn _ o d,hd⟩
  ·have z:∃o,s.heap.get? p=some o/\o.ExactDict:=by
    rcases d with⟨g,d⟩ | ⟨g,d⟩
    ·obtain⟨_,_,_,_,o,_,_,e,ex,_⟩:=I.hok p _ d;exact⟨o,e,ex⟩
    ·obtain⟨_,_,_,_,o,_,_,e,ex,_⟩:=I.hok p _ d;exact⟨o,e,ex⟩
   obtain⟨o,e,ex⟩:=z;refine⟨⟨o,e,ex.1⟩,λa f=>?_⟩;cases f;exact⟨o,e,ex.2.1⟩
  ·obtain⟨o,_,_,_,e,ex,_⟩:=I.hok p _ d;refine⟨⟨o,e,ex.1⟩,λa f=>?_⟩;cases f;exact⟨o,e,ex.2.1⟩
 | _=>exact False.elim ty
def VN(K:PySem.W.Frag)(T:String)(r:V->List V->Hp->VK->Prop)(to:TE):TE:=λσ H Q=>to σ H λx c=>tyV K T x c/\r x [] c Q
def tBM(K:PySem.W.Frag)(T:String)(r:V->List V->Hp->VK->Prop)(to:TE)(t:TA):TE:=λσ H Q=>to σ H λx c=>tyV K T x c/\t σ c λd f=>r x d f Q
variable {o e:Expr}{es:List Expr}{to:TE}{t:TA}{name:Str}{apos cpos:Pos}{T id:String}{r:V->List V->Hp->VK->Prop}
theorem VP(g:PlainAttrs T)(slot:Slot T name id)(f:typeOf (.builtin id)=pure (.type "method_descriptor"))(j:MtR X id r)(i:PE X o to)
  (d:attributeBase o name X.env (eval o X.env)=eval o X.env:=by rfl) (c:(apos.endLine == cpos.line)=true:=by rfl):PE X (.Call (.Attribute o name apos) [] [] cpos) (VN X.K T r to):=by
 intro pins s σ H Q I h;refine wpAny_Call_method0_late d c (thn (i pins s σ H _ I h) λv s1 ⟨x,H1,I1,r1,ty,q1⟩=>?_);obtain⟨h1,h2⟩:=Jp I1 r1 ty;exact⟨T,id,g,slot,f,h1,h2,Calls.callWith_builtin rfl (PySem.evalArgs_none (j pins s1 σ H1 x [] v [] Q I1 r1 .nil q1))⟩
theorem Af(l:PlainAttrs T)(slot:Slot T name id)(i:typeOf (.builtin id)=pure (.type "method_descriptor"))(q:MtR X id r)(n:PE X o to)(u:PA X (e::es) t)
  (f:attributeBase o name X.env (eval o X.env)=eval o X.env:=by rfl)
  (g:((backTo cpos (starEach (e::es) X.env)).all (λx=>!x.1)&&(backToKw cpos (keywordEach [] X.env)).all (λx=>x.1.isSome)
   && decide ((e::es).length+([]:List Keyword).length+(if([]:List Keyword).isEmpty then 0 else 1)<30))=true:=by rfl)
  (d:(apos.endLine == cpos.line)=true:=by rfl) (m:starEach (e::es) X.env=(false,eval e X.env)::starEach es X.env:=by rfl) (c:(backTo cpos (starEach es X.env)).any (·.1)=false:=by rfl):
  PE X (.Call (.Attribute o name apos) (e::es) [] cpos) (tBM X.K T r to t):=by
 intro pins s σ H Q I h;refine wpAny_Call_method_late f g d rfl (thn (n pins s σ H _ I h) λv s1 ⟨x,H1,I1,r1,ty,q1⟩=>?_);obtain⟨h1,h2⟩:=Jp I1 r1 ty;refine⟨T,id,l,slot,i,h1,h2,?_⟩;have j:=u cpos pins s1 σ H1 _ I1 q1;rw[m] at j ⊢;refine Calls.callWith_builtin (by show(false || (backTo cpos (starEach es X.env)).any (·.1))=false;rw[c]<;>rfl) (Calls.evalArgs_plain ?_)
 exact thn j λus s2 ⟨vs,H2,I2,r2,q2⟩=>q pins s2 σ H2 x vs v us Q I2 r1 r2 q2
/- xs.append(e),list.index on a module's tuple .. are MtR facts of 06m -/
end
def MtM(X:Cx)(c:String)(r:V->List V->Hp->VK->Prop):Prop :=
 ∀(pins:List (Addr×Obj)) (s:Shared) (σ:St) (H:Hp) (x:V) (a:List V) (v:Value) (b:List Value) (Q:VK),Inv X pins σ H s->RelV x v->aU a b->r x a H Q ->
  wpAny (model X.prog X.w) X.A (call (.builtin c) (v::b)) (EP X pins σ Q) X.xe s
theorem aU.one:∀{x:V}{us:List Value},aU [x] us->∃u,us=[u]/\RelV x u
 | _,_,.cons r .nil=>⟨_,rfl,r⟩
theorem aU.zero:∀{us:List Value},aU [] us->us=[]
 | _,.nil=>rfl
theorem aU.rep{xs:List V}{us:List Value}(h:aU xs us):∀k:Nat,aU (List.replicate k xs).flatten (List.replicate k us).flatten
 | 0=>.nil
 |k+1=>by
  rw[List.replicate_succ,List.replicate_succ,List.flatten_cons,List.flatten_cons];exact aU.append h (aU.rep h k)
theorem foldl_rep(its:List Value):∀(k:Nat) (acc:List Value),
  List.foldl (λb a=>b++a) acc.toArray (List.replicate k its.toArray)=(acc++(List.replicate k its).flatten).toArray
 | 0,acc=>by simp
 |k+1,acc=>by
  have e:acc.toArray++its.toArray=(acc++its).toArray:=by simp
  have c:(acc++its)++(List.replicate k its).flatten=acc++(List.replicate (k+1) its).flatten:=by
   rw[List.replicate_succ,List.flatten_cons,zI]
  rw[<-c,<-foldl_rep its k (acc++its),<-e,List.replicate_succ,List.foldl_cons]
section
variable {X:Cx}{pins:List (Addr×Obj)}{σ:St}{H:Hp}{s:Shared}{l b:Addr}{xs ys zs:List V}
theorem Inv.lset{its its':List Value}{n:Nat}{f:Array Value->Array Value}{t':Nat}(I:Inv X pins σ H s)(g:H l=some (.lst xs))
  (e:s.heap.get? l=some {cls:=.type "list",data:=.seq its.toArray n}) (c:f its.toArray=its'.toArray) (hv:aU ys its') (hz:ys.length<=sizeLine):
  Inv X pins σ (upd H l (.lst ys)) {s with heap:=s.heap.update l (Obj.mapSeq f),toks:=t'}:=by
 have q:=PySem.IsL.update e f;rw[c] at q;refine I.write (x:=l) (e:=l) (by rw[g];exact trivial) (.inl rfl) (λh u d a=>(jf s.heap (Obj.mapSeq f) (Ne.symm d)).trans a) ⟨_,q⟩ ?_;exact⟨hz,its',_,hv,q⟩
theorem Inv.lnew{its:List Value}{t':Nat}(I:Inv X pins σ H s)(hv:aU ys its)(hz:ys.length<=sizeLine):
  Inv X pins σ (upd H s.heap.objs.size (.lst ys)) {s with heap:=s.heap.push {cls:=.type "list",data:=.seq its.toArray},toks:=t'}:=
 I.laid (λ_ _ q=>zq _ q) (zb _) ⟨hz,its,0,hv,zG _ rfl⟩
theorem Inv.fresh(I:Inv X pins σ H s):H s.heap.objs.size=none:=I.hok.fresh (zb _)
theorem Inv.lstM(I:Inv X pins σ H s)(a:H l=some (.lst xs)):xs.length<=sizeLine/\∃(its:List Value) (n:Nat),aU xs its/\xs.length=its.length/\s.heap.get? l=some {cls:=.type "list",data:=.seq its.toArray n}:=by
 obtain⟨z,its,n,r,e⟩:=I.hok l _ a;exact⟨z,its,n,r,r.length,e⟩
theorem Jq{n:Nat}(h:n<=sizeLine):Builtin.List.listTooLong n=false:=by
 unfold Builtin.List.listTooLong;exact zf (by omega)
end
section
variable {X:Cx}
def VR:V->List V->Hp->VK->Prop:=λx b H Q=>∃l a y,x=.ref l/\b=[y]/\H l=some (.lst a)/\a.length<sizeLine/\Q .non (upd H l (.lst (a++[y])))
theorem Jr:MtM X "list.append" VR:=by
 intro pins s σ H x i v j Q I c d h;obtain⟨l,g,y,rfl,rfl,b,m,q⟩:=h;cases c;obtain⟨u,rfl,f⟩:=d.one;obtain⟨z,a,n,r,B,e⟩:=I.lstM b;refine call_meets F.slot_list_append ⟨_,e,rfl⟩ F.entry_list_append (F.args_list_append_2 _ _) (PySem.list_append l a.toArray n u (by rw[zr];omega)) ⟨e,?_⟩;refine⟨.non,_,I.lset (its':=a++[u]) b e (by simp) (r.append (.cons f .nil)) ?_,rfl,q⟩;rw[zn,zV];omega
def V0:V->List V->Hp->VK->Prop:=λx b H Q=>∃l a,x=.ref l/\b=[]/\H l=some (.lst a)/\Q .non (upd H l (.lst []))
theorem V1:MtM X "list.clear" V0:=by
 intro pins s σ H x i v j Q I d f h;obtain⟨l,g,rfl,rfl,c,q⟩:=h;cases d;have b:=f.zero;subst b;obtain⟨z,a,n,r,m,e⟩:=I.lstM c;refine call_meets F.slot_list_clear ⟨_,e,rfl⟩ F.entry_list_clear (F.args_list_clear_1 _) (AutoSeq1.list_clear_list_0 l a.toArray n (by rw[zr];omega)) ⟨e,?_⟩;exact⟨.non,_,I.lset (its':=[]) (ys:=[]) c e rfl .nil (Nat.zero_le _),rfl,q⟩
theorem len_rep{α:Type}(xs:List α)(k:Nat):(List.replicate k xs).flatten.length=k * xs.length:=by
 induction k with
 |zero=>simp
 |succ k a=>rw[List.replicate_succ,List.flatten_cons,zn,a,Nat.succ_mul,Nat.add_comm]
end
section
variable {prog:Program}{w:World}{A:Around}{E:Value->Shared->Prop}{s:Shared}
end
section
variable {X:Cx}
end
end L2
namespace Att
open PySem PySem.W PySem.Calls PyProof.Rows
theorem V2{P:Params}{h:Heap}:∀(ns:List Int) (vs:List Value),WellAll P h vs (ns.map WData.int)->IntsAre vs ns:=by
 intro ns
 induction ns with
 |nil =>
  intro vs w;rw[zO] at w;cases w;exact .nil
 |cons n ns ih =>
  intro vs w;rw[ze] at w
  cases w with
  |cons a b =>
   cases a;exact .cons _ _ (ih _ b)
theorem V3{l:OpenLaw}{n:Nat}(u:l.most=some n){P:Params}{h:Heap}{args:List WData}{vals:List Value}
  (b:l.row.toRowW.claim.pre args=true) (g:WellAll P h vals args):
  ∃a vs ns,vals=[Value.ref a]/\args=[WData.list (ns.map WData.int)]/\h.get? a=some {cls:=.type "list",data:=.seq vs.toArray}/\IntsAre vs ns/\ns.length<=n:=by
 have i:WShape.hasAll [] args [.list .int]=true:=(pre_splitW b).1;have j:l.pre.holds [] {args:=args}=true:=(pre_splitW b).2;obtain⟨d,r,rfl,h1,h2⟩:=hasAllW_cons i;obtain rfl:=hasAllW_nil h2;obtain⟨x,rfl,h3⟩:=hasW_list h1;obtain⟨ns,rfl⟩:=items_int h3
 have hlen:ns.length<=n:=by
  unfold OpenLaw.pre at j
  have h4:(WTm.not (.lt (.lit (.int (n:Int))) (.len (.arg 0)))).holds [] {args:=[.list (ns.map .int)]}=true:=by
   have h4:=(holds_andW j).1;rw[u] at h4;exact h4
  have f:=condW_of h4 (w_not (w_lt w_lit (w_len_list (w_arg rfl))));rw[zd] at f
  refine Nat.le_of_not_lt λq=>?_
  have q':(n:Int)<((ns.length:Nat):Int):=by omega
  first
   | (rw[zj q'] at f;exact absurd f (by decide))
   | (simp at f;omega)
 cases g with
 |cons w1 w2 =>
  cases w2
  cases w1 with
  |list m c=>exact⟨_,_,ns,rfl,rfl,m,V2 ns _ c,hlen⟩
theorem V4(l:OpenLaw)(args:List WData):l.row.toRowW.claim.post args (.bool true) args=true :=
 postW_of (r:=l.row.toRowW) (X:=(true == true))
  (show WShape.has [] (.bool true) .bool=true by first | rfl | decide | simp[WShape.has,WShape.arms,WShape.armsAll])
  (show(WTm.eq .res (.lit (.bool true))).value [] {args:=args,res:=some (.bool true),after:=args}=some (.bool (true == true)) from w_eq_bool (w_res rfl) w_lit) rfl
theorem attach_call{l:OpenLaw}{n:Nat}{q:Program}{loose:List Str}{E:(Str->Option Value)->Heap->Prop}{C:World->Heap->Prop}{d:DefRec}
  (J:l.most=some n) (y:d.params.defaults=[])
  (call:∀(w:World) (s₀ b:Shared) (mg m:Str->Option Value) (fa:Addr) (o:Obj) (pm j c:Value) (a:Addr) (vs:List Value) (ns:List Int),
   Ground q loose [] E w s₀ mg m b.heap->C w b.heap ->
   b.heap.get? fa=some o->o.data=.func (docDef d.name d.params d.body d.scope pm j c)->b.heap.CodeRec j d.name->mg d.name=some (.ref fa) ->
   b.heap.get? a=some {cls:=.type "list",data:=.seq vs.toArray}->IntsAre vs ns->ns.length<=n->b.gens = #[] ->
   codeAny (model l.prog w) callerA (.call (.ref fa) ⟨[.ref a],[]⟩) (λr i=>r=.ok (.ret (.bool true))/\OldK b.heap i.heap/\i.os=b.os/\AllBare i.gens) b):
  WalkO q loose E C l.row.toRowW d [] (λf vs=>PySem.call f vs):=by
 intro w s₀ b mg m G Y fa o pm j c P kV I hd z B x O args vals T g F Q u R;obtain rfl:P=.none:=Dflts.none B y;obtain rfl:kV=.none:=Dflts.noKw B;obtain⟨a,vs,ns,rfl,rfl,h,hints,hlen⟩:=V3 J g u;refine enter_call (codeAny_mono (call w s₀ b mg m fa o pm j c a vs ns G Y I (fd_plain hd) z x h hints hlen O) λr i H=>?_);obtain⟨rfl,h2,h3,h4⟩:=H;exact⟨.inl ⟨.bool true,.bool true,[],rfl,λ_=>rfl,.bool true,V4 l _,λ_=>⟨List.Pairwise.nil,λ_ L=>(nomatch L)⟩⟩,h2,h3,h4⟩
section
variable {prog:Program}{w:World}{A:Around}{E:Value->Shared->Prop}{s:Shared}{K:Frag}
end
end Att
namespace L2
open PySem PySem.Spec PyProof.Rows
theorem Ag:∀{vs:List Value}{ns:List Int},IntsAre vs ns->aU (ns.map V.int) vs
 | _,_,.nil=>.nil
 | _,_,.cons n t h=>.cons ⟨t,rfl⟩ (Ag h)
def nD(H:Hp):Prop:=∀b,H b=none\/∃o a,H b=some (.frz o (.lst a))
theorem V5{P:Program}{w:World}{K:PySem.W.Frag}{mg L:Str->Option Value}{CX:CXT}{k:Nat}{fa a:Addr}{fd:FuncData}{x:Str}{sp:Sp}{c:Shared}{vs:List Value}{ns:List Int}
  (KX:K.In c.heap) (B:c.heap.Ns mainGlobals mg) (hb:c.heap.Ns builtinsNs L) (R:∀x:Str,x≠"__name__"->L x=bootBuiltins x) (I:c.heap.NoLimit) (hg:c.gens = #[])
  (J:c.heap.get? a=some {cls:=.type "list",data:=.seq vs.toArray}) (hi:IntsAre vs ns) (X:ns.length<=sizeLine) (hr:bA k callerA)
  (F:∀base:Heap,K.In base->base.Ns mainGlobals mg->dI P w K mg base CX k fa fd [x] sp) (j:∀(s:Shared) (u:Value),BindsTo s fd ⟨[u],[]⟩ [(x,u)])
  (Q:∀H:Hp,nD H->SqL K H a (ns.map V.int)->sp [.ref a] H (λv _=>v=.bl true) λ_ _ _=>False)
  (T:∀H e g,CX [] H c (λ_ _ _=>False) e g->False):
  codeAny (model P w) callerA (.call (.ref fa) ⟨[.ref a],[]⟩) (λr g=>r=.ok (.ret (.bool true))/\OldK c.heap g.heap/\g.os=c.os/\AllBare g.gens) c:=by
 have U:=Ag hi;have E:=hi.length;have core:∀H:Hp,nD H->SqL K H a (ns.map V.int)->HOk P w H c.heap->(∀b,H b≠none->b=a)->(H a≠none->K.lookup a=none) ->
   codeAny (model P w) callerA (.call (.ref fa) ⟨[.ref a],[]⟩) (λr g=>r=.ok (.ret (.bool true))/\OldK c.heap g.heap/\g.os=c.os/\AllBare g.gens) c:=by
  intro H Y hS hok Z hK
  have f:∀{b:Addr}{o:Obj},c.heap.get? b=some o->H b=none->(fX c.heap H).get? b=some o:=λe n=>HW e n
  have O:∀{b:Addr}{o:Obj}{l:Array DictEntry}{y:Nat},c.heap.get? b=some o->o.data=.dict l y->H b=none:=λ{b o l y} e d=>by
   cases q:H b with
   |none=>rfl
   |some u =>
    have e':b=a:=Z b (by rw[q];simp);subst e';rw[J] at e;cases e;have d':Data.seq vs.toArray _=Data.dict l y:=d;cases d'
  have i:∀{b:Addr}{m:Str->Option Value},c.heap.Ns b m->(fX c.heap H).Ns b m:=λ{b m} ⟨o,l,y,e,d,r⟩=>⟨o,l,y,f e (O e d),d,r⟩
  have C:K.In (fX c.heap H):=λb o e=>f (KX b o e) (by
   cases q:H b with
   |none=>rfl
   |some u =>
    have e':b=a:=Z b (by rw[q];simp);subst e'
    rw[hK (by rw[q];simp)] at e;cases e)
  have hM:Mod K mg (fX c.heap H):=⟨C,i B,⟨L,i hb,R⟩,let ⟨mc,h1,h2⟩:=I;⟨mc,i h1,h2⟩⟩;have e0:lM P w K mg (fX c.heap H) callerA [] c H:=⟨rfl,hM,λb o e=>HX e,Nat.le_of_eq (HS _ _),trivial,λb hb=>absurd (show b∈([]:List Addr) from hb) (by simp),hok,.of_eq hg⟩
  refine codeAny_mono ((F _ C (i B)).run callerA [] c H ⟨[.ref a],[]⟩ [.ref a] [.ref a] _ _ hr e0 (j c (.ref a)) (.cons rfl .nil) (Q H Y hS)) λr g h=>?_
  cases r with
  |error e=>exact(T H e g h).elim
  |ok fl =>
   cases fl with
   |next=>exact False.elim h
   |brk=>exact False.elim h
   |cont=>exact False.elim h
   |ret u =>
    obtain⟨v,H',os,bare,un,G,r',q⟩:=h;have q':v=.bl true:=q;subst q';obtain rfl:u=Value.bool true:=r';refine⟨rfl,OldK.of_keep λb o e=>?_,os,bare⟩
    cases q:H b with
    |none=>exact un.keep b o e q (by intro z;exact absurd (show b∈([]:List Addr) from z) (by simp)) (by simp)
    |some u =>
     rcases Y b with z | ⟨ob,xs,z⟩
     ·rw[q] at z;cases z
     ·have z2:=un.frzs b ob _ z;obtain⟨e1,_⟩:=hok b _ z;obtain⟨e2,_⟩:=G b _ z2;rw[e] at e1;cases e1;exact e2
 cases hk:K.lookup a with
 |some o =>
  have e:=KX a o hk;rw[J] at e;cases e
  refine core (λ_=>none) (λ_=>.inl rfl) (.inr ⟨_,vs.toArray,_,hk,rfl,rfl,rfl,by rw[zr,E];exact X,by simpa using U⟩) (λb u z=>by have z':(none:Option HO)=some u:=z;cases z') (λb z=>absurd rfl z) λz=>absurd rfl z
 |none =>
  refine core (λb=>if b=a then some (.frz {cls:=.type "list",data:=.seq vs.toArray} (.lst (ns.map V.int))) else none) (λb=>?_) (.inl (.inr ⟨{cls:=.type "list",data:=.seq vs.toArray},if_pos rfl⟩)) (λb u z=>?_) (λb z=>?_) λ_=>hk
  ·by_cases hb:b=a
   ·exact .inr ⟨_,_,if_pos hb⟩
   ·exact .inl (if_neg hb)
  ·by_cases hb:b=a
   ·have z':=(if_pos hb).symm.trans z;cases z';subst hb;exact⟨J,by rw[zd];exact X,vs,_,U,J⟩
   ·have z':=(if_neg hb).symm.trans z;cases z'
  ·by_cases hb:b=a
   ·exact hb
   ·exact absurd (if_neg hb) z
abbrev KOf{K:PySem.W.Frag}{h:Heap}(_:K.In h):PySem.W.Frag:=K
theorem walk_of{l:PySem.W.OpenLaw}{n k:Nat}{q:Program}{loose:List Str}{XP:(Str->Option Value)->Heap->Prop}{YP:World->Heap->Prop}{d:DefRec}{K:Params->PySem.W.Frag}{CX:World->CXT}{sp:World->Sp}{x:Str}
  (hn:l.most=some n) (hn2:n<=sizeLine) (hdf:d.params.defaults=[]) (hr:bA k callerA)
  (hY:∀(w:World) (h:Heap),YP w h->(K w.params).In h)
  (F:∀(w:World) (mg:Str->Option Value) (fa:Addr) (h:Heap),(K w.params).In h->h.Ns mainGlobals mg->mg d.name=some (.ref fa) ->
   ∃fd:FuncData,(∀(s:Shared) (u:Value),BindsTo s fd ⟨[u],[]⟩ [(x,u)]) /\
    ∀base:Heap,(K w.params).In base->base.Ns mainGlobals mg->dI l.prog w (K w.params) mg base (CX w) k fa fd [x] (sp w))
  (hsp:∀(w:World) (H:Hp) (a:Addr) (ns:List Int),ns.length<=n->nD H->SqL (K w.params) H a (ns.map V.int)->sp w [.ref a] H (λv _=>v=.bl true) λ_ _ _=>False)
  (hCX:∀(w:World) (H:Hp) (s:Shared) (e:Value) (s':Shared),CX w [] H s (λ_ _ _=>False) e s'->False):
  PySem.W.WalkO q loose XP YP l.row.toRowW d [] (λf vs=>PySem.call f vs):=by
 refine Att.attach_call hn hdf λw s₀ s₁ mg mb fa o pm cd doc a vs ns G Y ho hd hcd hmg hobj hints hlen hg=>?_
 have KX:=hY w _ Y;obtain⟨fd,hb,hF⟩:=F w mg fa _ KX G.T.g hmg
 exact V5 KX G.T.g G.T.b G.T.builtins G.T.nolimit hg hobj hints (zM hlen hn2) hr hF hb (λH hO hS=>hsp w H a ns hlen hO hS) λH e s'=>hCX w H s₁ e s'
end L2
/- THE LAST THEOREM (shape;LID,My.* are yours):
   My.Adr: a structure of the addresses that your layer names (classes,functions);My.Txt K t: a structure (Prop) of the equations over K;
   My.txt_mk:{K}{implicit addresses ..} (e1:nsIn K mainGlobals "law" = some (some (.ref f))) (e2:K.lookup f=some ⟨oc,od,.func (fnOf "law" "law" params body scope dV kV doc pm an cdv ct),sl⟩) (e3:codeIn K cdv "law" = true) ..:∃t,My.Txt K t
set_option maxRecDepth 100000 in
set_option maxHeartbeats 0 in
theorem PySem.Challenge.cw_LID_holds : PySem.Challenge.rw_LID.Holds := by
 w_on;o_law;k_head;(case hw=>w_witness2)
 k_fill
 refine L2.walk_of (l:=PySem.Challenge.rw_LID) (n:=63) (k:=40) (x:="script") (CX:=λw=>..) (sp:=λ_=>My.sp_law) rfl (by decide) rfl ⟨rfl,by decide,by decide⟩ (λw h Y=>PySem.W.kIn_of Y) ?F ?S ?C
 case F =>
  intro w mg fa h KX G hmg
  have T:∃t,My.Txt (L2.KOf KX) t:=by
   dsimp only[L2.KOf]                          -- K must stand as «<heap const> w.params» for k_is
   refine' My.txt_mk ?e1 ?e2 ?e3 ..
   (case e1=>PySem.W.k_is)                    -- in the order: a name -> its address -> its object -> its parts
   (case e2=>PySem.W.k_is)
   ..
  obtain⟨t,T⟩:=T;have e0:=hmg.symm.trans (PySem.W.mg_of KX G T.law);cases e0                                       -- fa is the law's own address
  exact⟨_,λs u=>.of_eq rfl,λbase kb nb=>My.law_fn T kb nb⟩     -- if «.of_eq rfl» comes too early: refine'⟨_,?b,λbase kb nb=>My.law_fn T kb nb⟩;exact λs u=>.of_eq rfl
 case S=>exact λw H a ns hl hO hS=>..
 case C=>exact ..
(the tactic k_is has no namespace: write k_is) -/
namespace L2
open PySem PySem.Spec PyProof.Rows
def inClass(s:Stmt)(j:Nat):Stmt:=match s with
 | .ClassDef _ _ _ body _ _ _ _ _ _ _=>body.getD j (.Pass ⟨0,0,0,0⟩)
 | _=>.Pass ⟨0,0,0,0⟩
def gY(s:Stmt):Arguments:=match s with
 | .FunctionDef _ a _ _ _ _ _ _ _ _=>a
 | _=>{posonlyargs:=[],args:=[],vararg:=none,kwonlyargs:=[],kw_defaults:=[],kwarg:=none,defaults:=[]}
def eG(s:Stmt):List Stmt:=match s with
 | .FunctionDef _ _ b _ _ _ _ _ _ _=>b
 | _=>[]
def aR(s:Stmt):Scope:=match s with
 | .FunctionDef _ _ _ _ _ _ sc _ _ _=>sc
 | _=>{kind:=.function,names:=[],isGenerator:=false,isCoroutine:=false}
abbrev CX0:CXT:=λ_ _ _ _ _ _=>False
abbrev E0:XK:=λ_ _ _=>False
theorem vo{X:Cx}:nC CX0 X E0:=λ_ _ _ _ _ _ _ h=>h.elim
structure Fun(K:PySem.W.Frag)(x qual:Str)(st:Stmt)(f:Addr)(fd:FuncData):Prop where
 ex:∃(oc:Value) (od:Option Addr) (kV doc pm:Value) (an:Option Addr) (cdv ct:Value) (osl:Array (Option Value)),
  fd=PySem.W.fnOf x qual (gY st) (eG st) (aR st) .none kV doc pm an cdv ct/\K.lookup f=some ⟨oc,od,.func fd,osl⟩/\PySem.W.codeIn K cdv qual=true
 kp:PySem.W.keepIn K (.ref f)=true
section
variable {P:Program}{w:World}{K:PySem.W.Frag}{mg:Str->Option Value}{base:Heap}
theorem Fun.ok{x qual:Str}{st:Stmt}{f:Addr}{fd:FuncData}{N ps:List Str}{k:Nat}{sp:Sp}(F:Fun K x qual st f fd)(S:bB N ps (aR st))(len:∀vs H Q E,sp vs H Q E->vs.length=ps.length)
  (b:∀(a:Value) (A:Around) (outer:List Env) (s:Shared) (H:Hp) (vs:List V) (Q:VK) (E:XK),bA k (A.deeper (envOfC qual (aR st) s.heap.objs.size f a))->sp vs H Q E ->
   ∃t,PSs (iI CX0 P w K mg base N qual (aR st) f a A outer s H E).nox (eG st) t/\t {nx:=λ_ i=>Q .non i,rt:=Q} (start N vs) H):dI P w K mg base CX0 (k+1) f fd ps sp:=by
 obtain⟨r,n,kV,l,m,u,a,ct,j,rfl,lk,d⟩:=F.ex
 refine Vg lk d S len λA outer s H vs Q E g c=>?_
 obtain⟨t,h,q⟩:=b a A outer s H vs Q E g c;exact⟨t,h.nox,q⟩
theorem Fun.binds{x qual:Str}{st:Stmt}{f:Addr}{fd:FuncData}{ps:List Str}(F:Fun K x qual st f fd)
  (h:∀(kV a pm:Value) (c:Option Addr) (b ct:Value) (us:List Value),us.length=ps.length->bindArgs (PySem.W.fnOf x qual (gY st) (eG st) (aR st) .none kV a pm c b ct) ⟨us,[]⟩=pure (ps.zip us)):Binds K fd ps []:=by
 obtain⟨j,i,kV,a,pm,c,b,ct,d,rfl,lk,g⟩:=F.ex;exact .all (h kV a pm c b ct)
theorem Ah{x qual:Str}{st:Stmt}{f:Addr}{i:Value}{h g:Option Addr}{d:Array (Option Value)}{kV b pm a ct:Value}(l:K.lookup f=some ⟨i,h,.func (PySem.W.fnOf x qual (gY st) (eG st) (aR st) .none kV b pm g a ct),d⟩)
  (c:PySem.W.codeIn K a qual=true) (k:PySem.W.keepIn K (.ref f)=true):Fun K x qual st f (PySem.W.fnOf x qual (gY st) (eG st) (aR st) .none kV b pm g a ct):=⟨⟨i,h,kV,b,pm,g,a,ct,d,rfl,l,c⟩,k⟩
end
theorem ph{A:Around}{k:Nat}(a:bA k A):A.units+1<cLine:=Nat.lt_of_le_of_lt (Nat.add_le_add_left (by decide:1<=64) _) a.units
section
variable {X:Cx}
end
def Same(H a:Hp):Prop:=∀b o,H b=some o->a b=some o
theorem Same.refl(H:Hp):Same H H:=λ_ _ h=>h
theorem Same.trans{H f d:Hp}(a:Same H f)(b:Same f d):Same H d:=λc o h=>b c o (a c o h)
theorem Same.seq{K:PySem.W.Frag}{H b:Hp}{a:Addr}{xs:List V}(e:Same H b)(h:SqL K H a xs):SqL K b a xs:=by
 rcases h with(h | ⟨o,h⟩) | h
 ·exact .inl (.inl (e _ _ h))
 ·exact .inl (.inr ⟨o,e _ _ h⟩)
 ·exact .inr h
section
variable {κ:Type}[DecidableEq κ]
def fG(a:List (κ×V))(k:κ):Option V:=(a.find? λb=>decide (b.1=k)).map (·.2)
def putK(a:List (κ×V))(k:κ)(v:V):List (κ×V):=
 if(a.any λb=>decide (b.1=k))=true then a.map (λb=>if b.1=k then(b.1,v) else b) else a++[(k,v)]
theorem rY{p:κ×V}{r:List (κ×V)}{k:κ}(e:p.1=k):fG (p::r) k=some p.2:=by simp[fG,List.find?_cons,e]
theorem rZ{p:κ×V}{r:List (κ×V)}{k:κ}(e:¬p.1=k):fG (p::r) k=fG r k:=by simp[fG,List.find?_cons,e]
theorem Js(k:κ):∀a:List (κ×V),(a.any λb=>decide (b.1=k))=(fG a k).isSome
 | []=>rfl
 |p::r=>by
  rw[List.any_cons]
  by_cases e:p.1=k
  ·simp only[rY e,zj e,Bool.true_or,Option.isSome_some]
  ·rw[rZ e,zf e,Bool.false_or];exact Js k r
theorem Ai(a:List (κ×V))(k:κ)(v:V):(putK a k v).length<=a.length+1:=by
 unfold putK
 split
 ·rw[zd];omega
 ·rw[zn,zw,zU];omega
theorem fC.isSome_eq{o:Option V}{u:Option Value}(r:fC o u):o.isSome=u.isSome:=by
 cases o with
 |none=>cases u with
  |none=>rfl
  |some _=>exact(show False from r).elim
 |some _=>cases u with
  |none=>exact(show False from r).elim
  |some _=>rfl
theorem KV.val{a:List (κ×V)}{vs:List (κ×Value)}(r:KV a vs)(k:κ):fC (fG a k) (valueAt vs k):=by
 unfold KV at r
 induction r with
 |nil=>exact True.intro
 | @cons p q ps qs h t ih =>
  obtain⟨h1,h2⟩:=h
  by_cases e:p.1=k
  ·have e':q.1=k:=h1.symm.trans e
   have b:valueAt (q::qs) k=some q.2:=by simp[valueAt,List.find?_cons,e']
   rw[rY e,b];exact h2
  ·have e':¬q.1=k:=λz=>e (h1.trans z)
   have b:valueAt (q::qs) k=valueAt qs k:=by simp[valueAt,List.find?_cons,e']
   rw[rZ e,b];exact ih
theorem KV.any{a:List (κ×V)}{vs:List (κ×Value)}(r:KV a vs)(k:κ):(a.any λb=>decide (b.1=k))=vs.any λb=>decide (b.1=k):=by
 unfold KV at r
 induction r with
 |nil=>rfl
 |cons h t c=>rw[List.any_cons,List.any_cons,c,h.1]
theorem KV.repl{b:List (κ×V)}{vs:List (κ×Value)}(r:KV b vs)(k:κ){y:V}{u:Value}(c:RelV y u):
  KV (b.map λa=>if a.1=k then(a.1,y) else a) (vs.map λa=>if a.1=k then(a.1,u) else a):=by
 unfold KV at r ⊢
 induction r with
 |nil=>exact .nil
 | @cons p q ps qs h t ih =>
  rw[ze,ze];refine .cons ?_ ih;obtain⟨h1,h2⟩:=h
  by_cases e:p.1=k
  ·rw[if_pos e,if_pos (h1.symm.trans e)];exact⟨h1,c⟩
  ·rw[if_neg e,if_neg (λz=>e (h1.trans z))];exact⟨h1,h2⟩
theorem KV.put{a:List (κ×V)}{vs:List (κ×Value)}(r:KV a vs)(k:κ){y:V}{u:Value}(b:RelV y u):KV (putK a k y) (stored vs k u):=by
 unfold putK stored;rw[r.any k]
 by_cases e:(vs.any λc=>decide (c.1=k))=true
 ·rw[if_pos e,if_pos e];exact r.repl k b
 ·rw[if_neg e,if_neg e];exact Paired.snoc r ⟨rfl,b⟩
theorem KV.length{a:List (κ×V)}{vs:List (κ×Value)}(r:KV a vs):a.length=vs.length:=Paired.length r
end
theorem sr{P:Program}{w:World}{k:Key}{u:Value}(r:RelV (kV k) u):(eQ P w).is k u=true:=by
 cases k with
 |inl i=>obtain⟨t,e⟩:=(show ∃t,u=Value.int i t from r);subst e;exact RB P w i t
 |inr x=>obtain⟨t,e⟩:=(show ∃t,u=Value.str x t from r);subst e;exact RC P w x t
theorem Jt{P:Program}{w:World}:∀{a:List Key}{us:List Value},aU (a.map kV) us->ItemsAre (eQ P w) a us
 | [],_,r=>by rw[zO] at r;cases r;exact .nil
 |k::a,_,r=>by
  rw[ze] at r
  cases r with
  |cons h t=>exact .cons (sr h) (Jt t)
abbrev KT(H:Hp):List (List Key×V)->List (List Key×Addr×Value)->Prop:=Paired λp q=>p.1=q.1/\H q.2.1=some (.tup (p.1.map kV))/\RelV p.2 q.2.2
theorem KT.val{H:Hp}{a:List (List Key×V)}{xs:List (List Key×Addr×Value)}(r:KT H a xs)(k:List Key):fC (fG a k) ((atKey xs k).map (·.2)):=by
 induction r with
 |nil=>exact True.intro
 | @cons p q ps qs h t ih =>
  obtain⟨h1,_,h2⟩:=h
  by_cases e:p.1=k
  ·have e':q.1=k:=h1.symm.trans e
   have b:atKey (q::qs) k=some q.2:=by simp[atKey,List.find?_cons,e']
   rw[rY e,b];exact h2
  ·have e':¬q.1=k:=λz=>e (h1.trans z)
   have b:atKey (q::qs) k=atKey qs k:=by simp[atKey,List.find?_cons,e']
   rw[rZ e,b];exact ih
theorem KT.repl{H:Hp}{a:List (List Key×V)}{xs:List (List Key×Addr×Value)}(r:KT H a xs)(k:List Key){y:V}{u:Value}(c:RelV y u):
  KT H (a.map λb=>if b.1=k then(b.1,y) else b) (xs.map (putAt k u)):=by
 induction r with
 |nil=>exact .nil
 | @cons p q ps qs h t ih =>
  rw[ze,ze];refine .cons ?_ ih;obtain⟨h1,h2,h3⟩:=h;unfold putAt
  by_cases e:p.1=k
  ·rw[if_pos e,if_pos (h1.symm.trans e)];exact⟨h1,h2,c⟩
  ·rw[if_neg e,if_neg (λz=>e (h1.trans z))];exact⟨h1,h2,h3⟩
theorem KT.put{H:Hp}{a:List (List Key×V)}{xs:List (List Key×Addr×Value)}(r:KT H a xs)(k:List Key){b:Addr}{y:V}{u:Value}(hb:H b=some (.tup (k.map kV)))(c:RelV y u):
  KT H (putK a k y) (storedH xs k b u):=by
 have e:(a.any λd=>decide (d.1=k))=(atKey xs k).isSome:=by
  rw[Js,(r.val k).isSome_eq,Option.isSome_map]
 unfold putK storedH;rw[e]
 by_cases q:(atKey xs k).isSome=true
 ·rw[if_pos q,if_pos q];exact r.repl k c
 ·rw[if_neg q,if_neg q];exact Paired.snoc r ⟨rfl,hb,c⟩
theorem KT.keeps{H c:Hp}{a:List (List Key×V)}{xs:List (List Key×Addr×Value)}(r:KT H a xs)(d:∀b ys,H b=some (.tup ys)->c b=some (.tup ys)):KT c a xs :=
 Paired.mapP r λ_ _ z=>⟨z.1,d _ _ z.2.1,z.2.2⟩
section
variable {P:Program}{w:World}{H:Hp}{h:Heap}{a:Addr}
theorem Ju{u:HO}(ok:HOk P w H h)(e:Rd H a u):cF P w H h a u:=e.ok ok
theorem vp{b:List (Key×V)}(ok:HOk P w H h)(e:Rd H a (.dK b)):b.length<=sizeLine/\(a == sysModules)=false/\∃vs,KV b vs/\h.DictOf (eQ P w) a vs :=
 show cF P w H h a (.dK b) from Ju ok e
theorem Jv{b:List (Key×V)}(ok:HOk P w H h)(e:H a=some (.dK b)):b.length<=sizeLine/\(a == sysModules)=false/\∃vs,KV b vs/\h.DictOf (eQ P w) a vs:=vp ok (.inl e)
theorem vq{b:List Key}(ok:HOk P w H h)(e:H a=some (.tup (b.map kV))):(tupleKind (eQ P w)).is h b a:=by
 obtain⟨_,c,r,o,h1,h2,n,h3⟩:=(show cF P w H h a (.tup (b.map kV)) from ok a _ e);exact⟨o,c.toArray,n,h1,h2,h3,by simpa using Jt r⟩
theorem vz{b:List (List Key×V)}(ok:HOk P w H h)(e:Rd H a (.dT b)):b.length<=sizeLine/\(a == sysModules)=false /\
  ∃xs,KT H b xs/\h.DictOfH (tupleKind (eQ P w)) a xs:=by
 obtain⟨z,y,xs,r,o,f,g,h1,h2,h3,h4,d⟩:=(show cF P w H h a (.dT b) from Ju ok e);refine⟨z,y,xs,r,o,f,g,h1,h2,h3,h4,λx c=>?_,d⟩
 have all:∀{l:List (List Key×V)}{m:List (List Key×Addr×Value)},KT H l m->∀x∈m,(tupleKind (eQ P w)).is h x.1 x.2.1:=by
  intro l m q
  induction q with
  |nil=>intro x c;exact nomatch c
  | @cons p q ps qs hq t ih =>
   intro x c
   rcases zo.mp c with e | c
   ·subst e;exact vq ok (by rw[<-hq.1];exact hq.2.1)
   ·exact ih x c
 exact all r x c
theorem V6{b:List (List Key×V)}(ok:HOk P w H h)(e:H a=some (.dT b)):b.length<=sizeLine/\(a == sysModules)=false /\
  ∃xs,KT H b xs/\h.DictOfH (tupleKind (eQ P w)) a xs:=vz ok (.inl e)
end
def gZ(H:Hp)(a:Addr)(y:V)(r:Option V):Prop :=
 (∃c k,Rd H a (.dK c)/\y=kV k/\r=fG c k)\/∃c k b,Rd H a (.dT c)/\y=.ref b/\H b=some (.tup (k.map kV))/\r=fG c k
def lN(H:Hp)(a:Addr)(y v:V)(d:Hp):Prop :=
 (∃c k,H a=some (.dK c)/\y=kV k/\c.length<sizeLine/\d=upd H a (.dK (putK c k v))) \/
 ∃c k b,H a=some (.dT c)/\y=.ref b/\H b=some (.tup (k.map kV))/\c.length<sizeLine/\d=upd H a (.dT (putK c k v))
theorem gZ.k{H:Hp}{a:Addr}{b:List (Key×V)}{k:Key}(e:H a=some (.dK b)):gZ H a (kV k) (fG b k):=.inl ⟨b,k,.inl e,rfl,rfl⟩
theorem gZ.t{H:Hp}{a b:Addr}{c:List (List Key×V)}{k:List Key}(e:H a=some (.dT c))(d:H b=some (.tup (k.map kV))):gZ H a (.ref b) (fG c k):=.inr ⟨c,k,b,.inl e,rfl,d,rfl⟩
theorem lN.k{H:Hp}{a:Addr}{b:List (Key×V)}{k:Key}{v:V}(e:H a=some (.dK b))(c:b.length<sizeLine):lN H a (kV k) v (upd H a (.dK (putK b k v))):=.inl ⟨b,k,e,rfl,c,rfl⟩
theorem lN.t{H:Hp}{a b:Addr}{c:List (List Key×V)}{k:List Key}{v:V}(e:H a=some (.dT c))(f:H b=some (.tup (k.map kV)))(d:c.length<sizeLine):
  lN H a (.ref b) v (upd H a (.dT (putK c k v))):=.inr ⟨c,k,b,e,rfl,f,d,rfl⟩
section
variable {X:Cx}{pins:List (Addr×Obj)}{σ:St}{H:Hp}{s:Shared}{a:Addr}{y v:V}{u r:Value}{o:Option V}{A:Around}{E:Value->Shared->Prop}
theorem Inv.big(I:Inv X pins σ H s):sysModules<s.heap.objs.size:=by
 have h:mainGlobals<s.heap.objs.size:=(I.mod.glob.keeps I.bk).lt;exact Nat.lt_trans (by decide) h
theorem V7{Q:Value->Shared->Prop}(C:A.units+1<cLine)(I:Inv X pins σ H s)(g:gZ H a y (some v))(q:RelV y u)(h:∀d n,Inv X pins σ H n->RelV v d->Q d n):
  wpAny (model X.prog X.w) A (getItem (.ref a) u) Q E s:=by
 rcases g with⟨j,k,e,f,l⟩ | ⟨j,k,b,e,f,G,l⟩
 ·subst f;obtain⟨z,hd,B,rel,i⟩:=vp I.hok e;obtain⟨d,hw,c⟩:=fC.some_of (v:=v) (o:=valueAt B k) (by rw[l];exact rel.val k);exact wpAny_getItem_of (sr q) i.mapOf hw (h d _ (I.tok _) c)
 ·subst f;cases(show u=Value.ref b from q);obtain⟨z,hd,x,rel,i⟩:=vz I.hok e;obtain⟨d,hw,c⟩:=fC.some_of (v:=v) (o:=(atKey x k).map (·.2)) (by rw[l];exact rel.val k);obtain⟨p,F,m⟩:=Option.map_eq_some_iff.mp hw;refine wpAny_getItem_heap (tupleKind_room_in1 C) (vq I.hok G) i F ?_;rw[m];exact h d _ (I.tok _) c
theorem V8{Q:Value->Shared->Prop}(m:A.units+1<cLine)(I:Inv X pins σ H s)(g:gZ H a y o)(j:RelV y u)(h:∀i,Inv X pins σ H i->Q (.bool (!o.isSome)) i):
  wpAny (model X.prog X.w) A (compareOp .NotIn u (.ref a)) Q E s:=by
 rcases g with⟨f,k,e,c,l⟩ | ⟨f,k,b,e,c,n,l⟩
 ·subst c;obtain⟨z,hd,B,rel,d⟩:=vp I.hok e;refine wpAny_notIn_of (sr j) hd d.mapOf ?_;rw[<-(rel.val k).isSome_eq,<-l];exact h _ (I.tok _)
 ·subst c;cases(show u=Value.ref b from j);obtain⟨z,hd,x,rel,d⟩:=vz I.hok e;refine wpAny_notIn_heap (tupleKind_room_in1 m) (vq I.hok n) hd d ?_;have q:=(rel.val k).isSome_eq;rw[Option.isSome_map] at q;rw[<-q,<-l];exact h _ (I.tok _)
theorem Aj{h':Heap}{t':Nat}{ob:HO}(I:Inv X pins σ H s)(d:Mut (H a))(f:Heap.SameBut a s.heap h')(g:∃q,h'.get? a=some q)(c:cF X.prog X.w (upd H a ob) h' a ob):
  Inv X pins σ (upd H a ob) {s with heap:=h',toks:=t'}:=
 I.write (x:=a) (e:=a) d (.inl rfl) (λb q h z=>(f.2 b h).trans z) g c
theorem Jw{P:Program}{w:World}{d:Hp}{h':Heap}{b:List (Key×V)}{vs:List (Key×Value)}(z:b.length<=sizeLine)(hd:(a == sysModules)=false)(rel:KV b vs)(c:h'.DictOf (eQ P w) a vs):
  cF P w d h' a (.dK b):=⟨z,hd,vs,rel,c⟩
theorem V9{R:Hp}{Q:Unit->Shared->Prop}(W:A.units+1<cLine)(I:Inv X pins σ H s)(g:lN H a y v R)(G:RelV y u)(J:RelV v r)(h:∀F,Inv X pins σ R F->Q () F):
  wpAny (model X.prog X.w) A (setItem (.ref a) u r) Q E s:=by
 rcases g with⟨d,k,e,x,l,B⟩ | ⟨d,k,b,e,x,P,l,B⟩
 ·subst x B;obtain⟨z,hd,U,rel,C⟩:=Jv I.hok e
  have j:U.length<=sizeLine:=by rw[<-rel.length];exact z
  have n:(putK d k v).length<=sizeLine:=by have:=Ai d k v;omega
  refine wpAny_setItem_pairs (hsz:=j) (sr G) C λL f m=>h _ ?_
  have Y:∃q,L.get? a=some q:=let ⟨q,_,_,i,_⟩:=f;⟨q,i⟩;exact Aj I (by rw[e];exact True.intro) m Y (Jw n hd (rel.put k J) f)
 ·subst x B;cases(show u=Value.ref b from G);obtain⟨z,hd,T,rel,C⟩:=V6 I.hok e
  have j:T.length<=sizeLine:=by rw[<-Paired.length rel];exact z
  have n:(putK d k v).length<=sizeLine:=by have:=Ai d k v;omega
  refine wpAny_setItem_heap (hsz:=j) (tupleKind_room_in1 W) (vq I.hok P) C λL f m=>h _ ?_
  obtain⟨q,es,ep,i,h2,h3,h4,_,Z⟩:=f;refine Aj I (by rw[e];exact True.intro) m ⟨q,i⟩ ⟨n,hd,_,(rel.put k P J).keeps λc ys O=>?_,q,es,ep,i,h2,h3,h4,Z⟩;rw[aO (ne_of O e (λz=>nomatch z))];exact O
end
section
variable {X:Cx}{pins:List (Addr×Obj)}{σ:St}{H:Hp}{s:Shared}{a:Addr}{kvs:List (Key×V)}{k:Key}{u:Value}{A:Around}{E:Value->Shared->Prop}
end
def Jx(i:Expr):Prop:=∀a b,subscripted i false a b=operate [a,b] (getItem a b)
theorem Wa{prog:Program}{w:World}{A:Around}{E:Value->Shared->Prop}{s:Shared}{env:Env}{value slice:Expr}{l:Pos}{T n:String}{Q:Value->Shared->Prop}
  (u:typeLookup (.type T) "__getitem__" = pure (some (.builtin n))) (q:Jx slice)
  (h:wpAny (model prog w) A (eval value env) (λo d=>wpAny (model prog w) A (eval slice env) (λi a=>a.TypeIs o T/\wpAny (model prog w) A (getItem o i) Q E a) E d) E s):
  wpAny (model prog w) A (eval (.Subscript value slice l) env) Q E s:=by
 refine Subscript_ (zT h (λo d j=>zT j (λi a b=>?_) λ_ _ x=>x) λ_ _ x=>x);obtain⟨m,b⟩:=b;unfold subscriptTail;refine za ?_;rw[getitemInPython_of_ne m.not_modules];refine za (wpAny_specialOf m u ?_)
 have f:wpAny (model prog w) A (subscripted slice false o i) (λr c=>wpAny (model prog w) A (letTemporaryGo value o r >>= λ_=>pure r) Q E c) E a:=by
  rw[q o i];exact wpAny_operating (zT b (λr c g=>za (wpAny_letTemporaryGo (zc g))) λ_ _ x=>x)
 first
  | exact zc (za f)
  | exact za (zc (za f))
  | exact za f
theorem Wb{X:Cx}{pins:List (Addr×Obj)}{σ:St}{H:Hp}{s:Shared}{a:Addr}{y:V}{o:Option V}(I:Inv X pins σ H s)(g:gZ H a y o):s.TypeIs (.ref a) "dict":=by
 rcases g with⟨d,k,e,_,_⟩ | ⟨d,k,b,e,_,_,_⟩
 ·obtain⟨_,_,h,_,c⟩:=vp I.hok e;exact c.typeIs
 ·obtain⟨_,_,f,_,c⟩:=vz I.hok e;exact c.typeIs
def Wc(c ty:TE):TE:=λσ H Q=>c σ H λx d=>ty σ d λy b=>∃a v,x=.ref a/\gZ b a y (some v)/\Q v b
def Jy(ty c:TE):TE:=λσ H Q=>ty σ H λy d=>c σ d λx b=>∃a o,x=.ref a/\gZ b a y o/\Q (.bl (!o.isSome)) b
def Wd(d ty c:TE):TS:=λD σ H=>c σ H λv h=>d σ h λx g=>ty σ g λy f=>∃a b,x=.ref a/\lN f a y v b/\D.nx σ b
section
variable {X:Cx}{o i e value:Expr}{pos pos' tpos:Pos}{td ty tv:TE}
theorem Ak(c:X.A.units+1<cLine)(f:PE X o td)(hi:PE X i ty)(d:Jx i):PE X (.Subscript o i pos) (Wc td ty):=by
 intro pins s σ H Q I h;refine Wa PySem.F.slot_dict_getitem.lookup d (thn (f pins s σ H _ I h) λu s1 ⟨x,H1,I1,rx,q1⟩=>thn (hi pins s1 σ H1 _ I1 q1) λiv s2 ⟨y,H2,I2,ry,a,v,ex,g,q2⟩=>?_);subst ex;obtain rfl:u=Value.ref a:=rx;exact⟨Wb I2 g,V7 c I2 g ry λl m j b=>⟨v,H2,j,b,q2⟩⟩
theorem We(b:X.A.units+1<cLine)(hi:PE X i ty)(c:PE X o td):PC X .NotIn i o (Jy ty td):=by
 intro pins s σ H Q I h
 refine thn (hi pins s σ H _ I h) λiv s1 ⟨y,H1,I1,ry,q1⟩=>thn (c pins s1 σ H1 _ I1 q1) λu s2 ⟨x,H2,I2,rx,a,ov,ex,g,q2⟩=>?_
 subst ex;obtain rfl:u=Value.ref a:=rx
 exact V8 b I2 g ry λf d=>⟨.bl (!ov.isSome),H2,d,rfl,q2⟩
theorem Jz(b:X.A.units+1<cLine)(d:PE X o td)(hi:PE X i ty)(hv:PE X value tv)(c:swapsWith value (some (.Subscript o i pos')) pos.line X.env=pure false):
  PS X (.Assign [.Subscript o i pos'] value pos) (Wd td ty tv):=by
 intro pins s σ H D I h;refine wpAny_Assign_Subscript (thn (hv pins s σ H _ I h) λr s1 ⟨v,H1,I1,rv,q1⟩=>thn (d pins s1 σ H1 _ I1 q1) λu s2 ⟨x,H2,I2,rx,q2⟩=>thn (hi pins s2 σ H2 _ I2 q2) λiv s3 ⟨y,H3,I3,ry,a,H4,ex,g,q3⟩=>?_) c;subst ex;obtain rfl:u=Value.ref a:=rx
 exact V9 b I3 g ry rv λj f=>⟨σ,H4,f,q3⟩
end
theorem JB{P:Program}{w:World}{H:Hp}(h:Heap)(hb:sysModules<h.objs.size):cF P w H (h.push {cls:=.type "dict",data:=.dict #[]}) h.objs.size (.dK []):=
 ⟨Nat.zero_le _,beq_eq_false_iff_ne.mpr (Ne.symm (zy hb)),[],.nil,Heap.DictOf.new h⟩
theorem Wf{P:Program}{w:World}{H:Hp}(h:Heap)(hb:sysModules<h.objs.size):cF P w H (h.push {cls:=.type "dict",data:=.dict #[]}) h.objs.size (.dT []):=
 ⟨Nat.zero_le _,beq_eq_false_iff_ne.mpr (Ne.symm (zy hb)),[],.nil,_,#[],0,zG _ rfl,⟨rfl,rfl,rfl⟩,rfl,rfl,List.nodup_nil⟩
def Wg:TE:=λ_ H Q=>∀p,H p=none->Q (.ref p) (upd H p (.dK []))
def Wh:TE:=λ_ H Q=>∀p,H p=none->Q (.ref p) (upd H p (.dT []))
section
variable {X:Cx}{pos:Pos}
theorem Wi:PE X (.Dict [] [] pos) Wg:=λpins s σ H Q I h =>
 wpAny_Dict_empty ⟨.ref s.heap.objs.size,_,I.laid (a:=s.heap.objs.size) (o:=.dK []) (t':=s.toks) (λ_ _ q=>zq _ q) (zb _) (JB s.heap I.big),rfl,h _ (I.hok.fresh (zb _))⟩
theorem Wj:PE X (.Dict [] [] pos) Wh:=λpins s σ H Q I h =>
 wpAny_Dict_empty ⟨.ref s.heap.objs.size,_,I.laid (a:=s.heap.objs.size) (o:=.dT []) (t':=s.toks) (λ_ _ q=>zq _ q) (zb _) (Wf s.heap I.big),rfl,h _ (I.hok.fresh (zb _))⟩
end
def vA:List (TE×TE)->St->Hp->(List (V×V)->Hp->Prop)->Prop
 | [],_,H,Q=>Q [] H
 | (tk,tv)::r,σ,H,Q=>tk σ H λx d=>tv σ d λy c=>vA r σ c λa b=>Q ((x,y)::a) b
abbrev VV:List (V×V)->List (Value×Value)->Prop:=Paired λp q=>RelV p.1 q.1/\RelV p.2 q.2
def PPs(X:Cx)(b:Pos)(keys:List (Option Expr))(values:List Expr)(a:List (TE×TE)):Prop :=
 ∀(pins:List (Addr×Obj)) (s:Shared) (σ:St) (H:Hp) (Q:List (V×V)->Hp->Prop),Inv X pins σ H s->vA a σ H Q ->
  wpAny (model X.prog X.w) X.A (evalPairs (pairTrees keys values X.env b)) (λf g=>∃c d,Inv X pins σ d g/\VV c f/\Q c d) X.xe s
theorem Wl{X:Cx}{a:Pos}:PPs X a [] [] []:=λpins s σ H Q I h=>pairTrees_nil_walk ⟨[],H,I,.nil,h⟩
theorem Wm{X:Cx}{b:Pos}{k v:Expr}{d:List (Option Expr)}{vs:List Expr}{tk c:TE}{a:List (TE×TE)}(g:PE X k tk)(hv:PE X v c)(f:PPs X b d vs a):
  PPs X b (some k::d) (v::vs) ((tk,c)::a):=λpins s σ H Q I h =>
 pairTrees_cons_walk (thn (g pins s σ H _ I h) λu s1 ⟨x,H1,I1,rx,q1⟩=>thn (hv pins s1 σ H1 _ I1 q1) λw2 s2 ⟨y,H2,I2,ry,q2⟩ =>
  thn (f pins s2 σ H2 _ I2 q2) λws s3 ⟨ps,H3,I3,rel,q3⟩=>⟨(x,y)::ps,H3,I3,.cons ⟨rx,ry⟩ rel,q3⟩)
def su(a more:List (Key×V)):List (Key×V):=more.foldl (λb c=>putK b c.1 c.2) a
theorem KV.merge:∀{more:List (Key×V)}{b:List (Key×Value)}{a:List (Key×V)}{vs:List (Key×Value)},KV more b->KV a vs->KV (su a more) (merged vs b):=by
 intro more b a vs r;unfold KV at r
 induction r generalizing a vs with
 |nil=>intro q;exact q
 | @cons p q ps qs h t ih =>
  intro c
  have e:KV (putK a p.1 p.2) (stored vs q.1 q.2):=by
   have:=c.put p.1 h.2
   rw[<-h.1];exact this
  exact ih e
theorem JC:∀(more a:List (Key×V)),(su a more).length<=a.length+more.length
 | [],a=>by show a.length<=a.length+0;omega
 |p::r,a=>by
  have h1:=JC r (putK a p.1 p.2);have h2:=Ai a p.1 p.2;show(su (putK a p.1 p.2) r).length<=_;rw[zw];omega
theorem JD{P:Program}{w:World}:∀{d:List (Key×V)}{g:List (Value×Value)},VV (d.map λi=>(kV i.1,i.2)) g->∃f,Carries (eQ P w) g f/\KV d f
 | [],_,r=>by rw[zO] at r;cases r;exact⟨[],True.intro,.nil⟩
 |p::d,_,r=>by
  rw[ze] at r
  cases r with
  | @cons a b as bs h t =>
   obtain⟨f,c,q⟩:=JD (P:=P) (w:=w) t;obtain⟨l,j⟩:=b;exact⟨(p.1,j)::f,⟨sr h.1,rfl,c⟩,.cons ⟨rfl,h.2⟩ q⟩
def Wn(b:List (TE×TE)):TE:=λσ H Q=>∀p,H p=none->vA b σ (upd H p (.dK [])) λf d=>d p=some (.dK [])/\∃a:List (Key×V),f=a.map (λc=>(kV c.1,c.2))/\a.length<=15/\Q (.ref p) (upd d p (.dK (su [] a)))
theorem Wo{X:Cx}{d:Pos}{keys:List (Option Expr)}{values:List Expr}{b:List (TE×TE)}(h:PPs X d keys values b)(g:keys.all (·.isSome)=true)(x:keys.length=values.length)(h0:keys≠[])
  (i:keys.length<=15):PE X (.Dict keys values d) (Wn b):=by
 intro pins s σ H Q I q;have u:=I.hok.fresh (zb s.heap.objs.size);have C:=I.laid (a:=s.heap.objs.size) (o:=.dK []) (h':=s.heap.push {cls:=.type "dict",data:=.dict #[]}) (t':=s.toks) (λ_ _ q=>zq _ q) (zb _) (JB s.heap I.big);refine wpAny_Dict_walk (knd:=eQ X.prog X.w) g x h0 i (thn (h pins _ σ _ _ C (q _ u)) λws s2 ⟨ps,H2,I2,rel,e,kvs,ep,lk,q2⟩=>?_);subst ep;obtain⟨j,c,l⟩:=JD (P:=X.prog) (w:=X.w) rel;obtain⟨z,hd,E,m,B⟩:=Jv I2.hok e;cases m;refine⟨j,c,B,λh' f r=>⟨.ref s.heap.objs.size,_,?_,rfl,q2⟩⟩
 have n:(su [] kvs).length<=sizeLine:=by
  have h1:=JC kvs [];rw[zU] at h1;rw[sizeLine_eq];omega
 have y:∃q,h'.get? s.heap.objs.size=some q:=let ⟨q,_,_,hq,_⟩:=f;⟨q,hq⟩;exact Aj I2 (by rw[e];exact True.intro) r y (Jw n hd (l.merge .nil) f)
structure M1(X:Cx)(o:Expr)(m:Str)(apos:Pos)(e:Expr)(cpos:Pos):Prop where
 base:attributeBase o m X.env (eval o X.env)=eval o X.env
 few:((backTo cpos (starEach [e] X.env)).all (λx=>!x.1)&&(backToKw cpos (keywordEach [] X.env)).all (λx=>x.1.isSome)
  && decide (([e]:List Expr).length+([]:List Keyword).length+(if([]:List Keyword).isEmpty then 0 else 1)<30))=true
 line:(apos.endLine == cpos.line)=true
 trees:backTo cpos (starEach [e] X.env)=[(false,eval e X.env)]
structure M2(X:Cx)(o:Expr)(m:Str)(apos:Pos)(e f:Expr)(cpos:Pos):Prop where
 base:attributeBase o m X.env (eval o X.env)=eval o X.env
 few:((backTo cpos (starEach [e,f] X.env)).all (λx=>!x.1)&&(backToKw cpos (keywordEach [] X.env)).all (λx=>x.1.isSome)
  && decide (([e,f]:List Expr).length+([]:List Keyword).length+(if([]:List Keyword).isEmpty then 0 else 1)<30))=true
 line:(apos.endLine == cpos.line)=true
 trees:backTo cpos (starEach [e,f] X.env)=[(false,eval e X.env),(false,eval f X.env)]
section
variable {X:Cx}{pins:List (Addr×Obj)}{σ:St}{H:Hp}{s:Shared}{a:Addr}{y d:V}{u r:Value}{o:Option V}{A:Around}{E:Value->Shared->Prop}
end
section
variable {X:Cx}{o e f:Expr}{apos cpos:Pos}{td ty tx:TE}
end
section
variable {X:Cx}{pins:List (Addr×Obj)}{σ:St}{H:Hp}{s:Shared}{a:Addr}{kvs:List (Key×V)}{A:Around}{E:Value->Shared->Prop}
end
section
variable {X:Cx}{pins:List (Addr×Obj)}{σ:St}{H:Hp}{s:Shared}{a:Addr}{y:V}{u:Value}{A:Around}{E:Value->Shared->Prop}
end
section
variable {X:Cx}
end
section
variable {κ:Type}[DecidableEq κ]
end
def j0(cells:List (Str×Addr)):List (Str×NameKind)->List (Str×Addr)->List (Str×Addr)
 | [],acc=>acc
 | (n,k)::r,acc=>if k == .free then j0 cells r ((n,(cells.lookup n).getD 0)::acc) else j0 cells r acc
def lO(scope:Scope)(env:Env):List (Str×Addr):=j0 env.cells scope.names []
theorem JF{scope:Scope}{env:Env}(d:∀y∈scope.names,y.2=.free->∃c,env.cells.lookup y.1=some c):closureFor scope env=pure (lO scope env):=by
 simp only[closureFor,lO]
 generalize ([]:List (Str×Addr))=f
 generalize scope.names=names at d
 induction names generalizing f with
 |nil=>rfl
 |cons y r ih =>
  obtain⟨n,k⟩:=y
  have g:=λa=>ih a λz h=>d z (zt _ h)
  by_cases b:k=.free
  ·obtain⟨c,i⟩:=d (n,k) zp b;have hc':env.cells.lookup n=some c:=i;subst b;simp only[List.forIn_cons,beq_self_eq_true,if_true,cellOf,hc',pure_bind,bind_assoc,j0,Option.getD_some];exact g _
  ·have j:(k == NameKind.free)=false:=by simpa using b
   simp only[List.forIn_cons,j,Bool.false_eq_true,if_false,pure_bind,bind_assoc,j0];exact g _
theorem Al{cells:List (Str×Addr)}{x:Str}{c:Addr}:∀{names:List (Str×NameKind)}{acc:List (Str×Addr)},(j0 cells names acc).lookup x=some c->acc.lookup x=some c\/(∃k,(x,k)∈names/\k=.free/\(cells.lookup x).getD 0=c)
 | [],acc,h=>.inl h
 | (n,k)::r,acc,h=>by
  unfold j0 at h
  by_cases f:k=.free
  ·subst f;simp only[beq_self_eq_true,if_true] at h
   rcases Al h with z | ⟨k,a,q⟩
   ·rw[List.lookup_cons] at z
    by_cases d:x=n
    ·subst d;simp at z;exact .inr ⟨.free,zp,rfl,z⟩
    ·have b:(x == n)=false:=by simpa using d
     rw[b] at z;exact .inl z
   ·exact .inr ⟨k,zt _ a,q⟩
  ·have b:(k == NameKind.free)=false:=by simpa using f
   simp only[b,Bool.false_eq_true,if_false] at h
   rcases Al h with z | ⟨k,a,q⟩
   ·exact .inl z
   ·exact .inr ⟨k,zt _ a,q⟩
theorem vB{cells:List (Str×Addr)}{x:Str}:∀{names:List (Str×NameKind)}{acc:List (Str×Addr)},((∃c,acc.lookup x=some c)\/(x,NameKind.free)∈names)->∃c,(j0 cells names acc).lookup x=some c
 | [],acc,h=>by
  rcases h with h | h
  ·exact h
  ·cases h
 | (n,k)::r,acc,h=>by
  unfold j0
  by_cases b:k=.free
  ·subst b;simp only[beq_self_eq_true,if_true];refine vB ?_
   by_cases a:x=n
   ·subst a;exact .inl ⟨(cells.lookup x).getD 0,by simp[List.lookup_cons]⟩
   ·have d:(x == n)=false:=by simpa using a
    rcases h with⟨c,h⟩ | h
    ·exact .inl ⟨c,by rw[List.lookup_cons,d];exact h⟩
    ·rcases zo.mp h with e | h
     ·cases e;exact absurd rfl a
     ·exact .inr h
  ·have d:(k == NameKind.free)=false:=by simpa using b
   simp only[d,Bool.false_eq_true,if_false];refine vB ?_
   rcases h with h | h
   ·exact .inl h
   ·rcases zo.mp h with e | h
    ·cases e;exact absurd rfl b
    ·exact .inr h
def jC(scope a:Scope):List (Str×NameKind):=
 scope.names.map λ(n,k)=>if(k == .free&&a.kind == .function&&a.names.lookup n == some .cell) then(n,.cell) else(n,k)
theorem JG{scope a:Scope}(g:∀y∈scope.names,y.2≠.cell){x:Str}{k:NameKind}(h:(jC scope a).lookup x=some k)(f:k=.cell\/k=.free):(x,NameKind.free)∈scope.names:=by
 have d:=PySem.mem_of_lookup h;unfold jC at d;obtain⟨⟨n,c⟩,h1,h2⟩:=zx.mp d;dsimp only at h2
 by_cases b:(c == NameKind.free&&a.kind == .function&&a.names.lookup n == some .cell)=true
 ·rw[if_pos b] at h2
  have e:c=.free:=by
   simp only[zu,beq_iff_eq] at b;exact b.1.1
  cases h2;rw[<-e];exact h1
 ·rw[if_neg b] at h2;cases h2
  rcases f with e | e
  ·exact absurd e (g _ h1)
  ·rw[<-e];exact h1
def bF(a own:List Str)(cap:List Nat):List Str:=own++cap.map λj=>a.getD j (Str.ofString "")
def compSt(own:List Str)(cap:List Nat)(σ:St):St:=own.map (λ_=>none)++cap.map λj=>(σ[j]?).join
def nF(a:Scope)(b:List Str)(scope:Scope)(own:List Str)(cap:List Nat):Bool :=
 (scope.kind == .function)&&scope.names.all (λy=>y.2 != .cell)&&scope.names.all (λy=>y.2 != .local || scope.names.lookup y.1 == some .local) &&
 scope.names.all (λy=>y.2 != .free || a.names.lookup y.1 == some .cell || a.names.lookup y.1 == some .free) &&
 cap.all λj=>decide (j<b.length)&&scope.names.contains (b.getD j (Str.ofString ""),NameKind.free)&&((jC scope a).lookup (b.getD j (Str.ofString "")) == some .cell || (jC scope a).lookup (b.getD j (Str.ofString "")) == some .free)
structure j4(sc0:Scope)(N0:List Str)(scope:Scope)(own:List Str)(cap:List Nat):Prop where
 kind:scope.kind=.function
 nocell:∀y∈scope.names,y.2≠.cell
 names:∀y∈scope.names,y.2=.local->scope.names.lookup y.1=some .local
 free:∀y∈scope.names,y.2=.free->sc0.names.lookup y.1=some .cell\/sc0.names.lookup y.1=some .free
 cap:∀j∈cap,j<N0.length/\(N0.getD j (Str.ofString ""),NameKind.free)∈scope.names/\((jC scope sc0).lookup (N0.getD j (Str.ofString ""))=some .cell\/(jC scope sc0).lookup (N0.getD j (Str.ofString ""))=some .free)
theorem j4.of{d:Scope}{g:List Str}{scope:Scope}{own:List Str}{cap:List Nat}(h:nF d g scope own cap=true):j4 d g scope own cap:=by
 unfold nF at h;simp only[zu,jd,beq_iff_eq,bne_iff_ne,ne_eq,Bool.or_eq_true,decide_eq_true_eq,List.contains_iff_mem] at h;obtain⟨⟨⟨⟨h1,h2⟩,h3⟩,h4⟩,l⟩:=h;refine⟨h1,h2,λy f e=>?_,λy f e=>?_,λj i=>?_⟩
 ·rcases h3 y f with z | z
  ·exact absurd e z
  ·exact z
 ·rcases h4 y f with(z | z) | z
  ·exact absurd e z
  ·exact .inl z
  ·exact .inr z
 ·obtain⟨⟨a,b⟩,c⟩:=l j i;exact⟨a,b,c⟩
def cC(X:Cx)(scope:Scope)(C:Addr)(N':List Str)(s:Shared)(H:Hp)(ex:List Addr):Cx where
 prog:=X.prog
 w:=X.w
 K:=X.K
 mg:=X.mg
 base:=X.base
 A:=X.A
 N:=N'
 s₀:=s
 H₀:=H
 env:=compEnvC scope (lO scope X.env) C X.env
 outer:=X.stack
 stack:=X.stack
 ex:=ex
 fn:=λ_=>false
 calm:=X.calm
 pn:=[]
 xe:=λ_ _=>False
section
variable {X:Cx}
def lQ(X:Cx)(a:List Expr)(t:TT):Prop :=
 ∀(pins:List (Addr×Obj)) (s:Shared) (σ:St) (H:Hp) (Q:Bool->Hp->Prop),Inv X pins σ H s->t σ H Q ->
  wpAny (model X.prog X.w) X.A (forIn a true λc r=>if r=true then do let ok <-isTrue c X.env (eval c X.env);pure (ForInStep.yield ok) else pure (ForInStep.yield r)) (TP X pins σ Q) X.xe s
def Wq:TT:=λ_ H Q=>Q true H
theorem Wr:lQ X [] Wq:=λ_ _ _ H _ I h=>wpAny_tests_nil ⟨H,I,h⟩
theorem Ws{c:Expr}{t:TT}(h:PT X c t):lQ X [c] t:=λpins s σ H Q I q=>wpAny_tests_one (h pins s σ H Q I q)
end
def JH(J:It)(g:TG)(l:TT)(n:TE)(Q:List V->Hp->Prop)(h:St)(u:Hp):Prop :=
 ∃W:Nat->Nat->List V->St->Hp->Prop,(∃m,W 0 m [] h u)/\∀i m c σ H,W i m c σ H ->
  (J.stop i H/\Q c H)\/(J.go i H/\c.length<sizeLine/\∃N:List V->St->Hp->Prop,(∀c f d,N c f d->∃j,j<m/\W (i+1) j c f d)/\∀x d,J.yld i H x d->g x σ d λa r=>l a r λb H3 =>
   if b=true then n a H3 λy q=>N (c++[y]) a q else N c a H3)
def vC(c:TI)(own:List Str)(cap:List Nat)(g:TG)(d:TT)(f:TE):TE:=λσ H Q =>
 c σ H λJ h=>JH J g d f (λa b=>a.length<=sizeLine/\∀p,b p=none->Q (.ref p) (upd b p (.lst a))) (compSt own cap σ) h
section
variable {prog:Program}{w:World}{A:Around}{R:Result->Shared->Prop}{s:Shared}
theorem Wt{y target iter:Expr}{u:List Expr}{scope:Scope}{B:Pos}{it acc:Value}{env:Env}(I:Nat->Shared->Prop)
  (turn:∀n s,I n s->wpAny (model prog w) A (pyNext it) (λr d=>match r with
   |none=>R (.ok .next) d
   |some v=>wpAny (model prog w) A (letOwnedTupleGo target it v) (λ_ f=>wpAny (model prog w) A (assign target env v) (λ_ j =>
     wpAny (model prog w) A (forIn u true λc r=>if r=true then do let ok <-isTrue c env (eval c env);pure (ForInStep.yield ok) else pure (ForInStep.yield r)) (λok b =>
      if ok=true then wpAny (model prog w) A (eval y env) (λx i =>
       wpAny (model prog w) A (call (.builtin "list.append") [acc,x]) (λ_ g=>∃m,m<n/\I m g) (λ_ _=>False) i) (λ_ _=>False) b
      else ∃m,m<n/\I m b) (λ_ _=>False) j) (λ_ _=>False) f) (λ_ _=>False) d) (λ_ _=>False) s)
  (n:Nat) (h:I n s):
  codeAny (model prog w) A (.compLoop (.ListComp y [⟨target,iter,u,0⟩] scope B) 0 it acc env) R s:=by
 refine codeAny_loop rfl I (λn s G=>?_) n h;show wpAny _ A ((compTurn (.ListComp y [⟨target,iter,u,0⟩] scope B) 0 it acc env).onRaise (λx=>do noteFrame x env;theTreesLotGoes x)) _ _ s;refine wpAny_noted ?_;rw[compTurn_list];refine za (wpAny_standAt (za (zT (turn n s G) (λr d q=>?_) λ_ _ a=>a.elim)))
 cases r with
 |none=>exact zc q
 |some v =>
  refine za (zT q (λ_ f z=>?_) λ_ _ a=>a.elim);refine za (zT z (λ_ j F=>za (zT F (λok b l=>?_) λ_ _ a=>a.elim)) λ_ _ a=>a.elim)
  cases ok with
  |false=>exact zc ⟨rfl,l⟩
  |true =>
   exact za (za (zT l (λx i E=>za (zT E (λ_ g C=>zc (zc ⟨rfl,C⟩)) λ_ _ a=>a.elim)) λ_ _ a=>a.elim))
end
section
variable {X:Cx}{pins:List (Addr×Obj)}{σ:St}{s2:Shared}{H2:Hp}{elt tg iter:Expr}{ifs:List Expr}{scope:Scope}{pos:Pos}{g:TG}{tt:TT}{te:TE}{sc0:Scope}{N0 own:List Str}{cap:List Nat}
 {it:Addr}{fp:List Addr}{tn:Nat->Heap->Prop}{J:It}
theorem Am(d:Inv X pins σ H2 s2)(a:X.env.scope=sc0)(ok:j4 sc0 N0 scope own cap):∀y∈scope.names,y.2=.free->∃c,X.env.cells.lookup y.1=some c:=λy b e=>by
 refine d.ok.has y.1 ?_;have q:=ok.free y b e;rw[<-a] at q;exact q
theorem lR(i:Inv X pins σ H2 s2)(a:X.env.scope=sc0)(ok:j4 sc0 N0 scope own cap){x:Str}{c:Addr}(h:(lO scope X.env).lookup x=some c):X.env.cells.lookup x=some c:=by
 rcases Al h with z | ⟨k,b,d,q⟩
 ·simp at z
 ·obtain⟨f,e⟩:=Am i a ok (x,k) b d;have e':X.env.cells.lookup x=some f:=e;rw[e'] at q;rw[e',<-q];rfl
theorem Wu(a:Inv X pins σ H2 s2)(f:X.env.scope=sc0)(ok:j4 sc0 N0 scope own cap)(T:Turn X.prog X.w X.K tg J fp it tn)(j:tn 0 s2.heap)(i:∀b∈fp,gR X pins H2 b)
  (C:Addr) (l:s2.heap.objs.size<=C):(cC X scope C (bF N0 own cap) s2 H2 fp).Ok:=by
 have lt:∀b∈fp,b<s2.heap.objs.size:=λb d=>by
  obtain⟨o,e,_⟩:=T.obj 0 _ j b d;exact zg e
 have rel:(relabel scope X.env).names=jC scope sc0:=by rw[<-f];rfl
 refine⟨a.ok.mod,ok.kind,a.ok.glob,a.ok.blt,l,λx y c h1 h2=>?_,λx n=>?_,λx c hf _=>absurd hf (by simp[cC]),a.ok.hd,a.ok.frames,.inl rfl,λb d=>⟨?_,λx c h=>?_⟩,a.bs,zM a.ok.bsz a.sz,
  λb o e d=>?_,λb d m=>?_,a.stack,a.stkFree⟩
 ·exact a.ok.inj x y c (lR a f ok h1) (lR a f ok h2)
 ·have hx':(jC scope sc0).lookup x=some .cell\/(jC scope sc0).lookup x=some .free:=by rw[<-rel];exact n
  have r:(x,NameKind.free)∈scope.names:=by
   rcases hx' with q | q
   ·exact JG ok.nocell q (.inl rfl)
   ·exact JG ok.nocell q (.inr rfl)
  exact vB (.inr r)
 ·exact zy (zJ (lt b d) l)
 ·exact(i b d).2.2.2.2.1 x c (lR a f ok h)
 ·rcases(i b d).2.2.2.1 with z | z
  ·exact a.ok.noex b o e z
  ·exact absurd (zJ (zg e) (zM a.ok.bsz z)) (zQ _)
 ·rcases zo.mp (a.stkSub b m) with z | z
  ·exact(i b d).2.1 z
  ·exact(i b d).2.2.1 z
theorem Wv(f:Inv X pins σ H2 s2)(a:X.env.scope=sc0)(L:X.N=N0)(ok:j4 sc0 N0 scope own cap)(T:Turn X.prog X.w X.K tg J fp it tn)(H:tn 0 s2.heap)(Z:∀b∈fp,gR X pins H2 b)
  (C:Addr) (R:s2.heap.objs.size<=C) {d:Heap}{tk:Nat}{m:Str->Option Value} (n:∀b o,s2.heap.get? b=some o->d.get? b=some o) (I:d.Ns C m):
  Inv (cC X scope C (bF N0 own cap) s2 H2 fp) [] (compSt own cap σ) H2 {s2 with heap:=d,toks:=tk}:=by
 have rel:(relabel scope X.env).names=jC scope sc0:=by rw[<-a];rfl
 refine⟨Wu f a ok T H Z C R,rfl,f.bare,Un.kept n,⟨m,I,λi x v e1 e2 _=>?_⟩,λx c h=>?_,f.hok.fresh R,λx c h=>?_,λp U=>absurd (show p∈([]:List (Addr×Obj)) from U) (by simp),f.hok.kept n,?_⟩
 ·have e1':(bF N0 own cap)[i]?=some x:=e1;unfold bF at e1';unfold compSt at e2
  by_cases hi:i<own.length
  ·rw[zA (by simpa using hi),zF] at e2
   cases q:own[i]? with
   |none=>rw[q] at e2;cases e2
   |some z=>rw[q] at e2;cases e2
  ·rw[zC (by simpa using hi),zF] at e2;rw[zC (by simpa using hi),zF] at e1';rw[zd] at e2
   cases q:cap[i - own.length]? with
   |none=>rw[q] at e2;cases e2
   |some j =>
    rw[q] at e1' e2;have ex:N0.getD j (Str.ofString "")=x:=zB e1';have B:(σ[j]?).join=some v:=zB e2;obtain⟨Q,G,P⟩:=ok.cap j (zR q);rw[ex] at G P
    have eN:X.N[j]?=some x:=by
     rw[L,zv Q];rw[jg,zv Q] at ex;exact congrArg some ex
    have O:σ[j]?=some (some v):=by
     cases z:σ[j]? with
     |none=>rw[z] at B;cases B
     |some o=>rw[z] at B;cases o with
      |none=>cases B
      |some y=>exact congrArg some B
    have kf:X.env.kindOf x=some .cell\/X.env.kindOf x=some .free:=by
     have z:=ok.free _ G rfl;rw[<-a] at z;exact z
    obtain⟨m0,hn0,W⟩:=f.loc;obtain⟨u,r,l⟩:=W j x v eN O (kf.elim (λz=>.inr (.inl z)) λz=>.inr (.inr z));refine⟨u,r,.inr ⟨?_,?_⟩⟩
    ·show(relabel scope X.env).names.lookup x=_\/(relabel scope X.env).names.lookup x=_;rw[rel];exact P
    ·rcases l with⟨l,_⟩ | ⟨_,c,Y,⟨o,F,hd⟩⟩
     ·rcases kf with z | z<;>(rw[z] at l;cases l)
     ·obtain⟨c',E⟩:=vB (cells:=X.env.cells) (names:=scope.names) (acc:=[]) (.inr G);have z:=lR f a ok E;rw[Y] at z;cases z;exact⟨c,E,o,n _ _ F,hd⟩
 ·obtain⟨v,o,F,hd⟩:=f.cell x c (lR f a ok h);exact⟨v,o,n _ _ F,hd⟩
 ·exact f.freeC x c (lR f a ok h)
 ·show(compSt own cap σ).length=(bF N0 own cap).length;unfold compSt bF;simp
theorem JK{Q:List V->Hp->Prop}{RR:Value->Addr->Result->Shared->Prop}{E:Value->Shared->Prop}(hc:X.calm=true)(I2:Inv X pins σ H2 s2)(hsc:X.env.scope=sc0)(hN0:X.N=N0)(ok:j4 sc0 N0 scope own cap)
  (hg:∀C s H ex,PG (cC X scope C (bF N0 own cap) s H ex) tg g) (ht:∀C s H ex,lQ (cC X scope C (bF N0 own cap) s H ex) ifs tt) (he:∀C s H ex,PE (cC X scope C (bF N0 own cap) s H ex) elt te)
  (T:Turn X.prog X.w X.K tg J fp it tn) (st2:tn 0 s2.heap) (f2:∀b∈fp,gR X pins H2 b) (hW:JH J g tt te Q (compSt own cap σ) H2)
  (hRR:∀D C oC ys F R,Inv X (pins++[(C,oC)]) σ (upd F D (.lst ys)) R->(∀h:Heap,h.get? C=some oC->∃m,h.Ns C m)->gR X pins (upd F D (.lst ys)) C->F D=none->Q ys F->RR (.ref D) C (.ok .next) R)
  (hQsz:∀ys F,Q ys F->ys.length<=sizeLine):
  wpAny (model X.prog X.w) X.A (newList []) (λacc O=>wpAny (model X.prog X.w) X.A (newFunctionEnv scope X.env.globals (lO scope X.env) [] X.env.qual none .none (some X.env)) (λcenv s₄ =>
   codeAny (model X.prog X.w) X.A (.compStart (.ListComp elt [⟨tg,iter,ifs,0⟩] scope pos) 0 (.ref it) acc {cenv with scope:=relabel scope X.env}) (RR acc cenv.locals) s₄) E O) E s2:=by
 refine wpAny_newObj_type (wpAny_newFunctionEnv ok.nocell (by intro y hy;simp at hy) (λU L l=>?_) ok.kind);dsimp only at L l ⊢
 generalize hP2:s2.heap.push {cls:=.type "list",dict:=none,data:=.seq ([]:List Value).toArray}=B at L l ⊢
 have hC:B.objs.size=s2.heap.objs.size+1:=by rw[<-hP2,Heap.size_push]
 have hDC:s2.heap.objs.size≠B.objs.size:=by rw[hC];exact zy (je _)
 have hCle:s2.heap.objs.size<=B.objs.size:=by rw[hC];exact Nat.le_succ _
 have below:∀b,b<s2.heap.objs.size->b≠B.objs.size/\b≠s2.heap.objs.size:=λb j=>⟨by rw[hC];exact zy (jn j),zy j⟩
 have ltf:∀b∈fp,b<s2.heap.objs.size:=λb j=>by
  obtain⟨o,e,_⟩:=T.obj 0 _ st2 b j;exact zg e
 have old:∀b o,s2.heap.get? b=some o->U.get? b=some o:=λb o e=>l.extBut b o (below b (zg e)).1 (zq _ (hP2 ▸ zq _ e))
 have hacc:U.PlainList s2.heap.objs.size #[]:=⟨_,l.extBut _ _ hDC (zq _ (hP2 ▸ zG _ rfl))⟩
 have st₁:tn 0 U:=T.keep _ _ _ st2 λb _ o e=>old b o e
 have hDno:∀b∈fp,s2.heap.objs.size≠b:=λb j=>(below b (ltf b j)).2.symm
 generalize hXe:cC X scope B.objs.size (bF N0 own cap) s2 H2 fp=X'
 have loop:∀O:Shared,O = {s2 with heap:=U,toks:=s2.toks+([]:List (Str×Value)).length} ->
   codeAny (model X.prog X.w) X.A (.compLoop (.ListComp elt [⟨tg,iter,ifs,0⟩] scope pos) 0 (.ref it) (.ref s2.heap.objs.size) (compEnvC scope (lO scope X.env) B.objs.size X.env))
    (RR (.ref s2.heap.objs.size) B.objs.size) O:=by
  rintro O rfl;obtain⟨W,⟨m0,w0⟩,turn⟩:=hW;subst hXe
  have stat:∀{F:Hp}{oD:Obj},(∀b∈fp,F b=none)->∀b∈fp,gR (cC X scope B.objs.size (bF N0 own cap) s2 H2 fp) [(s2.heap.objs.size,oD)] F b:=λ{F oD} hn b j =>
   ⟨hn b j,(below b (ltf b j)).1,λz=>by
    rcases zo.mp (I2.stkSub b z) with z | z
    ·exact(f2 b j).2.1 z
    ·exact(f2 b j).2.2.1 z,.inl j,λx c h=>(f2 b j).2.2.2.2.1 x c (lR I2 hsc ok h),λp hp=>by
    have e:p=(s2.heap.objs.size,oD):=by simpa [cC] using hp
    rw[e];exact hDno b j⟩
  have notcell:∀x c,(lO scope X.env).lookup x=some c->c≠s2.heap.objs.size:=λx c h z=>by
   obtain⟨v,o,ho,hd⟩:=I2.cell x c (lR I2 hsc ok h);exact absurd (zg ho) (by rw[z];exact zQ _)
  have nofs:s2.heap.objs.size∉frs X.stack:=λz=>by
   rcases zo.mp (I2.stkSub _ z) with z | z
   ·exact absurd I2.lt (by rw[z];exact zQ _)
   ·exact I2.nofs (zb _) z
  have pinD:∀{G:St}{F:Hp}{R:Shared}{f:Array Value}{k:Nat},Inv (cC X scope B.objs.size (bF N0 own cap) s2 H2 fp) [] G F R->F s2.heap.objs.size=none ->
    R.heap.get? s2.heap.objs.size=some {cls:=.type "list",data:=.seq f k}->Inv (cC X scope B.objs.size (bF N0 own cap) s2 H2 fp) [(s2.heap.objs.size,{cls:=.type "list",data:=.seq f k})] G F R :=
   λ{G F R f k} I hn hd=>I.pins_of λp hp=>by
    have e:p=(s2.heap.objs.size,{cls:=.type "list",data:=.seq f k}):=by simpa using hp
    subst e;exact⟨hd,hn,hDC,nofs,λv z=>by cases z⟩
  obtain⟨k0,hk0⟩:=hacc;refine Wt (env:=compEnvC scope (lO scope X.env) B.objs.size X.env)
   (λn R=>∃i ys f k G F,Inv (cC X scope B.objs.size (bF N0 own cap) s2 H2 fp) [(s2.heap.objs.size,{cls:=.type "list",data:=.seq f k})] G F R/\tn i R.heap/\(∀b∈fp,F b=none)/\aU ys f.toList/\W i n ys G F) ?_ m0
   ⟨0,[],#[],k0,_,H2,pinD (Wv I2 hsc hN0 ok T st2 f2 _ hCle old L) (I2.hok.fresh (zb _)) hk0,st₁,λb j=>(f2 b j).1,.nil,w0⟩
  rintro n s3 ⟨i,ys,f,k,σ3,H3,I3,st3,fr3,hv,w3⟩
  rcases turn i n ys σ3 H3 w3 with⟨stop,qn⟩ | ⟨go,hsz,N,hN,step⟩
  ·refine thn (T.done (cC X scope B.objs.size (bF N0 own cap) s2 H2 fp) rfl rfl rfl hc i _ s3 σ3 H3 _ I3 (stat fr3) st3 stop) λr s4 ⟨hr,Z⟩=>?_
   subst hr;show RR _ _ (.ok .next) s4;obtain⟨hd4,P,_⟩:=Z.pin (s2.heap.objs.size,{cls:=.type "list",data:=.seq f k}) (by simp[cC]);dsimp only at hd4 P;obtain⟨m4,hns4,_⟩:=id Z.loc;have hns4':s4.heap.Ns B.objs.size m4:=hns4;obtain⟨oC,es,ep,hoC,rC⟩:=id hns4';have cne:B.objs.size≠s2.heap.objs.size:=hDC.symm;have freeC:H3 B.objs.size=none:=Z.free;have Y:gR X pins (upd H3 s2.heap.objs.size (.lst ys)) B.objs.size:=I2.fpOk hCle (by rw[aO cne];exact freeC)
   have hlen:ys.length=f.size:=by have e:=hv.length;simpa using e
   have I5:Inv X pins σ (upd H3 s2.heap.objs.size (.lst ys)) s4:=by
    refine I2.call' (ch:=fp) Z.os ⟨Z.base.keep,Z.base.slot,λb o e n hx=>?_,Z.base.there,λb xs e=>?_,λb o u e=>?_,λb ps e=>?_⟩ (λb u e=>?_) Z.bare λb j=>?_
    ·rw[aO (zy (zg e))];exact Z.base.free b o e n hx
    ·have q:=Z.base.tups b xs e;rw[aO (cN q P)];exact q
    ·have q:=Z.base.frzs b o u e;rw[aO (cN q P)];exact q
    ·obtain⟨more,q⟩:=Z.base.tbls b ps e;exact⟨more,by rw[aO (cN q P)];exact q⟩
    ·by_cases j:b=s2.heap.objs.size
     ·subst j;rw[bN] at e;cases e;exact⟨hQsz ys H3 qn,f.toList,k,hv,by simpa using hd4⟩
     ·rw[aO j] at e
      exact(Z.hok b u e).stay (λ_ _ _ q=>q) (λc q=>by rw[aO (cN q P)];exact q) λc xs q=>by rw[aO (cN q P)];exact q
    ·obtain⟨_,a2,_,a4,a5,a6⟩:=f2 b j;exact⟨a4,a2,a5,a6⟩
   refine hRR s2.heap.objs.size B.objs.size oC ys H3 s4 (I5.pins_of λp hp=>?_) (λh e=>⟨m4,oC,es,ep,e,rC⟩) Y P qn
   rcases zz.mp hp with z | z
   ·exact I5.pin p (zL _ z)
   ·have e:p=(B.objs.size,oC):=by simpa using z
    subst e
    exact⟨hoC,Y.1,Y.2.1,Y.2.2.1,λv z=>by
     have:=rC.1
     rw[this] at z;cases z⟩
  ·refine thn (T.item (cC X scope B.objs.size (bF N0 own cap) s2 H2 fp) rfl rfl rfl hc i _ s3 σ3 H3 _ I3 (stat fr3) st3 go) λr s4 ⟨u,hr,h4⟩=>?_
   subst hr
   refine thn h4 λ_ s5 ⟨x,H5,I5,r5,y5,st5,fr5⟩=>?_
   have I5':=I5.pinned (stat fr5) (T.obj _ _ st5)
   refine thn (hg _ _ _ _ _ s5 σ3 H5 x u _ I5' r5 (step x H5 y5)) λ_ s6 ⟨σ6,H6,I6,q6⟩=>?_
   refine thn (ht _ _ _ _ _ s6 σ6 H6 _ I6 q6) λb s7 ⟨H7,I7,q7⟩=>?_
   have keepT:∀{G:St}{F:Hp}{R:Shared},Inv (cC X scope B.objs.size (bF N0 own cap) s2 H2 fp) ([(s2.heap.objs.size,{cls:=.type "list",data:=.seq f k})]++rM fp s5.heap) G F R->tn (i+1) R.heap/\∀b∈fp,F b=none:=λ{G F R} I'=>by
    refine⟨T.keep _ _ _ st5 λb j o e=>(I'.pin (b,o) (zL _ (zL _ (vg j e)))).1,λb j=>?_⟩;obtain⟨o,e,d⟩:=T.obj _ _ st5 b j;exact(I'.pin (b,o) (zL _ (zL _ (vg j e)))).2.1
   cases b with
   |false =>
    rw[if_neg zh] at q7 ⊢;obtain⟨m',hm,w7⟩:=hN _ _ _ q7;obtain⟨a,b⟩:=keepT I7;exact⟨m',hm,i+1,ys,f,k,σ6,H7,I7.unpinned,a,b,hv,w7⟩
   |true =>
    rw[if_pos rfl] at q7 ⊢
    refine thn (he _ _ _ _ _ s7 σ6 H7 _ I7 q7) λv s8 ⟨y,H8,I8,r8,q8⟩=>?_
    obtain⟨m',hm,w8⟩:=hN _ _ _ q8;obtain⟨a,b⟩:=keepT I8;obtain⟨hd8,hn8,_⟩:=I8.pin (s2.heap.objs.size,{cls:=.type "list",data:=.seq f k}) (by simp[cC]);dsimp only at hd8 hn8
    have hl:f.size<=sizeLine:=by
     have e:=hv.length;simp at e;omega
    refine wpAny_list_append_plain (hsz:=hl) ⟨k,hd8⟩ λh9 hl9 hs9=>?_
    obtain⟨k9,hd9⟩:=hl9
    have I8':Inv (cC X scope B.objs.size (bF N0 own cap) s2 H2 fp) [] σ6 H8 s8:=I8.pins_of λp hp=>absurd hp (by simp)
    have I9:Inv (cC X scope B.objs.size (bF N0 own cap) s2 H2 fp) [] σ6 H8 {s8 with heap:=h9}:=
     I8'.turned (t':=s8.toks) (it:=s2.heap.objs.size) (λb o j e=>hs9.extBut b o j e) hn8 hDC (.inr (zb _)) notcell (λp hp=>absurd (show p∈([]:List (Addr×Obj)) from hp) (by simp))
    refine⟨m',hm,i+1,ys++[y],f.push v,k9,σ6,H8,pinD I9 hn8 hd9,T.keep _ _ _ a λb j o e=>hs9.extBut b o (hDno b j).symm e,b,?_,w8⟩;rw[Array.toList_push];exact hv.append (.cons r8 .nil)
 exact codeAny_compStart_list (loop _ rfl) (T.self _ 0 _ _ _ st₁ (loop _ rfl))
theorem JL{r:TI}(sc0:Scope)(N0 own:List Str)(cap:List Nat)(P:X.calm=true)(hi:PI X tg iter r)
  (L:∀C s H ex,PG (cC X scope C (bF N0 own cap) s H ex) tg g) (E:∀C s H ex,lQ (cC X scope C (bF N0 own cap) s H ex) ifs tt) (O:∀C s H ex,PE (cC X scope C (bF N0 own cap) s H ex) elt te)
  (a:X.env.scope=sc0:=by rfl) (i:X.N=N0:=by rfl) (ok:nF sc0 N0 scope own cap=true:=by decide +kernel) (F:∀x,foldedSetIterable iter X.env x=pure x:=by intro _;rfl):
  PE X (.ListComp elt [⟨tg,iter,ifs,0⟩] scope pos) (vC r own cap g tt te):=by
 intro pins s σ H Q I h;have ok:=j4.of ok;rw[eval_ListComp];refine wpAny_comprehension_free (use:=none) rfl F (JF (Am I a ok)) ok.kind ok.names (thn (hi pins s σ H _ I h) λxv s1 h1=>thn h1 λitv s2 h2=>?_);obtain⟨it,fp,tn,J,H2,e,I2,T,c,f2,U⟩:=h2;subst e
 refine JK (RR:=λl C=>compPost (model X.prog X.w) X.A X.xe none (EP X pins σ Q) l C) P I2 a i ok L E O T c f2 U (λD C B n y z u f j W q=>?_) λn y q=>q.1
 obtain⟨Y,hCn,_⟩:=u.pin (C,B) (by simp);obtain⟨m,G⟩:=f _ Y;refine⟨m,G,λh' d=>⟨.ref D,upd y D (.lst n),?_,rfl,q.2 D W⟩⟩;obtain⟨f0,f1,f2',f3,f4,Z⟩:=j;exact u.unpinned.turned (t':=z.toks) (it:=C) (λb o R e=>d.extBut b o R e) f0 f1 f3 f4 Z
theorem Ww{G:TI}{i:Nat}{x:Str}{pos' a:Pos}(sc0:Scope)(N0 own:List Str)(cap:List Nat)(hN:X.N.Nodup)(P:X.N[i]?=some x)(Z:Loc X.env.scope x)(hc:X.calm=true)(hi:PI X tg iter G)
  (hg:∀C s H ex,PG (cC X scope C (bF N0 own cap) s H ex) tg g) (R:∀C s H ex,lQ (cC X scope C (bF N0 own cap) s H ex) ifs tt) (he:∀C s H ex,PE (cC X scope C (bF N0 own cap) s H ex) elt te)
  (r:swapsWith (.ListComp elt [⟨tg,iter,ifs,0⟩] scope pos) (some (.Name x pos')) a.line X.env=pure true:=by rfl)
  (hf:X.fn x=true\/X.env.scope.names.lookup x=some .local:=by first | exact .inl rfl | exact .inr rfl | assumption)
  (f:X.env.scope=sc0:=by rfl) (z:X.N=N0:=by rfl) (ok:nF sc0 N0 scope own cap=true:=by decide +kernel) (U:∀x,foldedSetIterable iter X.env x=pure x:=by intro _;rfl):
  PS X (.Assign [.Name x pos'] (.ListComp elt [⟨tg,iter,ifs,0⟩] scope pos) a) (rK (vC G own cap g tt te) (rJ i)):=by
 intro pins s σ H D I h;have ok:=j4.of ok;rw[exec_Assign_Name_used _ _ _ _ r];refine za (wpAny_standAt (za ?_));show wpAny _ X.A (do let _ <-comprehension (.ListComp elt [⟨tg,iter,ifs,0⟩] scope pos) scope X.env _ (newList []) false (eval iter X.env) (some (assign (.Name x pos') X.env))) _ _ s
 refine za (zT (wpAny_comprehension_free (use:=some (assign (.Name x pos') X.env)) (Q:=λ_ c=>SP X pins D .next c) rfl U (JF (Am I f ok)) ok.kind ok.names
  (thn (hi pins s σ H _ I h) λxv s1 h1=>thn h1 λitv s2 h2=>?_)) (λ_ c W=>zc (zc W)) λ_ _ e=>e)
 obtain⟨it,fp,tn,J,H2,e,I2,T,l,f2,hW⟩:=h2;subst e
 refine JK (RR:=λE C=>compPost (model X.prog X.w) X.A X.xe (some (assign (.Name x pos') X.env)) (λ_ c=>SP X pins D .next c) E C) hc I2 f z ok hg R he T l f2 hW (λd C O F L c I' y B hD q=>?_) λF L q=>q.1
 show wpAny _ X.A (assign (.Name x pos') X.env (.ref d)) _ _ _;refine wpAny_assign_Name (yN (v:=.ref d) I' hN P Z rfl (λn j=>?_) hf);obtain⟨hC,hCn,_⟩:=j.pin (C,O) (by simp);obtain⟨m,Y⟩:=y _ hC;refine⟨m,Y,λh' u=>⟨σ.set i (some (.ref d)),upd L d (.lst F),?_,q.2 d hD⟩⟩;obtain⟨f0,f1,f2',f3,f4,f5⟩:=B;exact j.unpinned.turned (t':=n.toks) (it:=C) (λb o hb e=>u.extBut b o hb e) f0 f1 f3 f4 f5
end
def Can(P:Program)(w:World)(K:PySem.W.Frag)(mg:Str->Option Value)(base:Heap)(x:Str)(ps:List Str)(k:Nat)(sp:Sp):Prop :=
 ∃f fd,mg x=some (.ref f)/\PySem.W.keepIn K (.ref f)=true/\Binds K fd ps []/\dI P w K mg base CX0 k f fd ps sp/\∃c b a,K.lookup f=some ⟨c,b,.func fd,a⟩
def Def(K:PySem.W.Frag)(mg:Str->Option Value)(x:Str)(st:Stmt):Prop:=∃f fd,mg x=some (.ref f)/\Fun K x x st f fd
section
variable {P:Program}{w:World}{K:PySem.W.Frag}{mg:Str->Option Value}{base:Heap}
theorem Def.can{x:Str}{st:Stmt}{N ps:List Str}{k:Nat}{sp:Sp}(D:Def K mg x st)(S:bB N ps (aR st))
  (hb:∀(kV d pm:Value) (m:Option Addr) (a ct:Value) (us:List Value),us.length=ps.length->bindArgs (PySem.W.fnOf x x (gY st) (eG st) (aR st) .none kV d pm m a ct) ⟨us,[]⟩=pure (ps.zip us))
  (len:∀vs H Q E,sp vs H Q E->vs.length=ps.length)
  (b:∀(f:Addr) (a:Value) (A:Around) (outer:List Env) (s:Shared) (H:Hp) (vs:List V) (Q:VK) (E:XK),bA k (A.deeper (envOfC x (aR st) s.heap.objs.size f a))->sp vs H Q E ->
   ∃t,PSs (iI CX0 P w K mg base N x (aR st) f a A outer s H E).nox (eG st) t/\t {nx:=λ_ n=>Q .non n,rt:=Q} (start N vs) H):Can P w K mg base x ps (k+1) sp:=by
 obtain⟨f,fd,l,F⟩:=D;obtain⟨i,g,_,_,_,_,_,_,c,_,lk,_⟩:=F.ex;exact⟨f,fd,l,F.kp,F.binds hb,F.ok S len λa A outer s H vs Q E j h=>b f a A outer s H vs Q E j h,i,g,c,lk⟩
end
section
variable {X:Cx}{k:Nat}{x:Str}{ps:List Str}{sp:Sp}{p pos:Pos}{e:Expr}{es:List Expr}{t:TA}
theorem Wx(C:Can X.prog X.w X.K X.mg X.base x ps k sp)(c:bA k X.A)(l:PA X (e::es) t)(h:Gl X x:=by rfl)(b:(x == ("__debug__":Str))=false:=by decide)
  (i:starEach (e::es) X.env=(false,eval e X.env)::starEach es X.env:=by rfl) (a:(backTo pos (starEach es X.env)).any (·.1)=false:=by rfl):
  PE X (.Call (.Name x p) (e::es) [] pos) (z9 sp [] E0 t):=by
 obtain⟨f,fd,d,g,j,F,_⟩:=C;exact Va F c h d g j .nil vo l b i a
end
theorem Same.seqT{K:PySem.W.Frag}{H b:Hp}{a:Addr}{xs:List V}(e:Same H b)(h:SqT K H a xs):SqT K b a xs:=by
 rcases h with(h | ⟨o,h⟩) | h
 ·exact .inl (.inl (e _ _ h))
 ·exact .inl (.inr ⟨o,e _ _ h⟩)
 ·exact .inr h
mutual
def Rep(K:PySem.W.Frag)(H:Hp):V->PyData->Prop
 |v,.none=>v=.non
 |v,.bool b=>v=.bl b
 |v,.int i=>v=.int i
 |v,.str x=>v=.str x
 |v,.list ds=>∃a c,v=.ref a/\SqL K H a c/\cJ K H c ds
 |v,.tuple ds=>∃a c,v=.ref a/\SqT K H a c/\cJ K H c ds
 | _,.dict _=>False
def cJ(K:PySem.W.Frag)(H:Hp):List V->List PyData->Prop
 |xs,[]=>xs=[]
 |xs,d::ds=>∃x r,xs=x::r/\Rep K H x d/\cJ K H r ds
end
mutual
theorem Rep.mono{K:PySem.W.Frag}{H f:Hp}(e:Same H f):∀(d:PyData) {v:V},Rep K H v d->Rep K f v d
 | .none,v,h=>by rw[Rep] at h ⊢;exact h
 | .bool b,v,h=>by rw[Rep] at h ⊢;exact h
 | .int i,v,h=>by rw[Rep] at h ⊢;exact h
 | .str x,v,h=>by rw[Rep] at h ⊢;exact h
 | .list ds,v,h=>by
  rw[Rep] at h ⊢;obtain⟨a,c,h1,h2,h3⟩:=h;exact⟨a,c,h1,e.seq h2,cJ.mono e ds h3⟩
 | .tuple ds,v,h=>by
  rw[Rep] at h ⊢;obtain⟨a,c,h1,h2,h3⟩:=h;exact⟨a,c,h1,e.seqT h2,cJ.mono e ds h3⟩
 | .dict _,v,h=>by rw[Rep] at h;exact h.elim
theorem cJ.mono{K:PySem.W.Frag}{H a:Hp}(e:Same H a):∀(ds:List PyData) {xs:List V},cJ K H xs ds->cJ K a xs ds
 | [],xs,h=>by rw[cJ] at h ⊢;exact h
 |d::ds,xs,h=>by
  rw[cJ] at h ⊢;obtain⟨x,r,h1,h2,h3⟩:=h;exact⟨x,r,h1,Rep.mono e d h2,cJ.mono e ds h3⟩
end
theorem cJ.nil{K:PySem.W.Frag}{H:Hp}:cJ K H [] []:=by rw[cJ]
theorem cJ.cons{K:PySem.W.Frag}{H:Hp}{x:V}{xs:List V}{d:PyData}{ds:List PyData}(h:Rep K H x d)(a:cJ K H xs ds):cJ K H (x::xs) (d::ds):=by
 rw[cJ];exact⟨x,xs,rfl,h,a⟩
section
variable {X:Cx}{pins:List (Addr×Obj)}{σ:St}{H:Hp}{s:Shared}
mutual
theorem Rep.reads(I:Inv X pins σ H s):∀(d:PyData) {v:V}{u:Value},Rep X.K H v d->RelV v u->∃as,Reads s.heap u d as
 | .none,v,u,h,r=>by rw[Rep] at h;subst h;cases(show u=.none from r);exact⟨_,.none⟩
 | .bool b,v,u,h,r=>by rw[Rep] at h;subst h;cases(show u=.bool b from r);exact⟨_,.bool b⟩
 | .int i,v,u,h,r=>by rw[Rep] at h;subst h;obtain⟨t,rfl⟩:=(show ∃t,u=.int i t from r);exact⟨_,.int i t⟩
 | .str x,v,u,h,r=>by rw[Rep] at h;subst h;obtain⟨t,rfl⟩:=(show ∃t,u=.str x t from r);exact⟨_,.str x t⟩
 | .list ds,v,u,h,r=>by
  rw[Rep] at h;obtain⟨a,m,rfl,h2,h3⟩:=h;cases(show u=.ref a from r);obtain⟨l,c,f,_⟩:=I.list h2;obtain⟨as,q⟩:=cJ.reads I ds h3 c;obtain⟨o,g,j,n,hd⟩:=f.isList;exact⟨_,.list g j hd (by simpa using q)⟩
 | .tuple ds,v,u,h,r=>by
  rw[Rep] at h;obtain⟨a,m,rfl,h2,h3⟩:=h;cases(show u=.ref a from r);obtain⟨l,c,f,_⟩:=I.tuple h2;obtain⟨as,q⟩:=cJ.reads I ds h3 c;obtain⟨o,g,j,n,hd⟩:=f;exact⟨_,.tuple g j hd (by simpa using q)⟩
 | .dict _,v,u,h,r=>by rw[Rep] at h;exact h.elim
theorem cJ.reads(I:Inv X pins σ H s):∀(ds:List PyData) {xs:List V}{us:List Value},cJ X.K H xs ds->aU xs us->∃as,ReadsAll s.heap us ds as
 | [],xs,us,h,r=>by rw[cJ] at h;subst h;cases r;exact⟨_,.nil⟩
 |d::ds,xs,us,h,r=>by
  rw[cJ] at h;obtain⟨x,rest,rfl,h2,h3⟩:=h
  cases r with
  |cons r1 r2 =>
   obtain⟨as,q⟩:=Rep.reads I d h2 r1;obtain⟨bs,a⟩:=cJ.reads I ds h3 r2;exact⟨_,.cons q a⟩
end
end
def okD(d:PyData):Bool:=d.canLay0&&decide (d.depth<=60)
def An(K:PySem.W.Frag)(a:Bool):R2:=λx y H Q=>∃d e,Rep K H x d/\Rep K H y e/\okD d=true/\okD e=true/\Q (.bl (if a then !PyData.eqv d e else PyData.eqv d e)) H
section
variable {X:Cx}
theorem Wz{k:Nat}(j:bA k X.A):OpR X (compareOp .Eq) (An X.K false):=by
 intro pins s σ H x y v u Q I f c h;obtain⟨d,e,h1,h2,b,a,q⟩:=h;obtain⟨l,i⟩:=Rep.reads I d h1 f;obtain⟨bs,g⟩:=Rep.reads I e h2 c;unfold okD at b a;simp only[zu,decide_eq_true_eq] at b a;exact SeqAt.compareEq_reads i g b.1 a.1 (by have:=j.units;omega) ⟨.bl _,H,I,rfl,q⟩
theorem JM{k:Nat}(j:bA k X.A):OpR X (compareOp .NotEq) (An X.K true):=by
 intro pins s σ H x y v u Q I f c h;obtain⟨d,e,h1,h2,b,a,q⟩:=h;obtain⟨l,i⟩:=Rep.reads I d h1 f;obtain⟨bs,g⟩:=Rep.reads I e h2 c;unfold okD at b a;simp only[zu,decide_eq_true_eq] at b a;exact SeqAt.compareNe_reads i g b.1 a.1 (by have:=j.units;omega) ⟨.bl _,H,I,rfl,q⟩
end
def S(l:List Nat):Str:=⟨l.toArray⟩
theorem pq(l:List Nat):(S l).cps.toList=l:=by simp[S]
theorem fM(l:List Nat):(S l).length=l.length:=by simp[S,Str.length]
theorem WD(x:Str):S x.cps.toList=x:=by cases x;simp[S]
theorem WK(a b:List Nat):S a++S b=S (a++b):=by
 show Str.mk _=Str.mk _;simp[S]
theorem WL{a b:List Nat}(h:S a=S b):a=b:=by have:=congrArg (λx:Str=>x.cps.toList) h;simpa [pq] using this
section
variable {X:Cx}
theorem WM:OpR X (compareOp .LtE) (λx y H Q=>∃i j,x=.str i/\y=.str j/\Q (.bl (!decide (j.cps.toList<i.cps.toList))) H):=by
 intro pins s σ H x y v u Q I b a h;obtain⟨i,j,rfl,rfl,q⟩:=h;obtain⟨t,rfl⟩:=b;obtain⟨c,rfl⟩:=a;exact P.le_str ⟨.bl _,H,I,rfl,q⟩
theorem WN:OpR X (compareOp .In) (λx y H Q=>∃c l,x=.str (S [c])/\y=.str (S l)/\Q (.bl (decide (c∈l))) H):=by
 intro pins s σ H x y v u Q I b a h;obtain⟨c,l,rfl,rfl,q⟩:=h;refine Ui pins s σ H _ _ v u Q I b a ⟨S [c],S l,rfl,rfl,?_⟩;have e:=PySem.StrLaws.found_one (S l) c;rw[pq] at e;show Q (.bl (!(Builtin.Str.occurrences (S l) (S [c]) 0 (S l).length 1).isEmpty)) H;rw[show S [c]=⟨#[c]⟩ from rfl,e];exact q
def Its(l:List Nat):It:=⟨λi _=>i<l.length,λi H x a=>a=H/\∃c,l[i]?=some c/\x=.str (S [c]),λi _=>l.length<=i⟩
theorem WQ{P:Program}{w:World}{K:PySem.W.Frag}{tg:Expr}(l:List Nat)(it:Addr)(t:Tok):Turn P w K tg (Its l) [it] it (λi h=>h.IsStrIter it "str_ascii_iterator" (S l) t i) where
 mem:=by simp
 obj:=λi h st b hb=>by
  have e:b=it:=by simpa using hb
  subst e;obtain⟨o,e,c,d⟩:=st;exact⟨o,e,λv z=>by rw[d] at z;cases z⟩
 keep:=λi h h' st k=>let ⟨o,ho,r⟩:=st;⟨o,k it (by simp) o ho,r⟩
 item:=by
  intro X hP hw hK hc i pins s σ H E I hf st hg;subst hP hw hK;obtain⟨f0,f1,f2,f3,f4,f5⟩:=hf it (by simp);have hg':i<l.length:=hg
  refine wpAny_pyNext_ascii_item st (c:=l[i]) (by simp[S,hg']) λh' st' sb=>?_
  have I1:Inv X pins σ H {s with heap:=h',toks:=s.toks+1}:=I.turned (λb o hb e=>(sb.2 b hb).trans e) f0 f1 f3 f4 f5;obtain⟨o,e,c,d⟩:=id st';exact⟨_,rfl,m8 (s:={s with heap:=h',toks:=s.toks+1}) e c d (by decide) ⟨.str (S [l[i]]),H,I1,⟨_,rfl⟩,⟨rfl,l[i],by simp[hg'],rfl⟩,st',λb hb=>(hf b hb).1⟩⟩
 done:=by
  intro X hP hw hK hc i pins s σ H E I hf st hg;subst hP hw hK;obtain⟨f0,f1,f2,f3,f4,f5⟩:=hf it (by simp);have hg':l.length<=i:=hg
  exact wpAny_pyNext_ascii_end (I.ok.hd hc) st (by simp[S,hg']) λh' eb=>⟨rfl,I.turned (t':=s.toks) (λb o hb e=>eb b o hb e) f0 f1 f3 f4 f5⟩
 self:=λ_ _ _ _ _ st h=>wpAny_pyIter_striter_ascii st h
def ascii(l:List Nat):Bool:=l.all (· < 128)
def WR(tl:TE):TI:=λσ H R=>tl σ H λx a=>∃l,x=.str (S l)/\ascii l=true/\R (Its l) a
theorem WT{a e:Expr}{tl:TE}(c:PE X e tl):PI X a e (WR tl):=by
 intro pins s σ H R I h
 refine thn (c pins s σ H _ I h) λv s1 ⟨x,H1,I1,r1,q1⟩=>?_
 obtain⟨l,e,f,q⟩:=q1;subst e;obtain⟨t,rfl⟩:=r1;refine wpAny_pyIter_ascii (by simpa [S,ascii] using f) ?_;refine⟨s1.heap.objs.size,[s1.heap.objs.size],_,_,H1,rfl,I1.kept (t':=s1.toks) λb o e=>zq _ e,WQ l _ t,⟨_,zG _ rfl,rfl,rfl⟩,λb d=>?_,q⟩
 have e:b=s1.heap.objs.size:=by simpa using d
 subst e;exact I1.fpOk (zb _) (I1.hok.fresh (zb _))
theorem WW(C:X.calm=true):gU X (.builtin "all") (λxs H Q=>∃(a:Addr) (bs:List Bool),xs=[.ref a]/\SqL X.K H a (bs.map V.bl)/\Q (.bl (bs.all id)) H):=by
 intro pins s σ H xs G Q I r h;obtain⟨a,bs,rfl,F,q⟩:=h;obtain⟨u,rfl,f⟩:=vals1 r;cases f;obtain⟨c,d,p,L⟩:=I.list F;refine call_all_walk (wpAny_pyIter_list p.isList ?_);have j:a≠s.heap.objs.size:=zy (zg p.isList.choose_spec.1)
 refine⟨s.heap.objs.size,_,_,c.toArray.size,_,_,λi=>bs.getD i true,rfl,Walks.list (A:=X.A.in1) (I.ok.hd C) s.heap.objs.size a j c.toArray,
  ⟨⟨_,zG _ rfl,rfl,rfl⟩,p.isList.at λo e=>zq _ e⟩,λi v J P R l y=>?_,λO tk B=>?_⟩
 ·have E:(bs.map V.bl)[i]?=some (V.bl (bs.getD i true)):=by
   have hi:i<c.length:=by
    have z:=Array.getElem?_eq_some_iff.mp l;simpa using z.1
   have g:=d.length;rw[zd] at g;rw[zF,zv (by omega),jg,zv (by omega)];rfl
  obtain⟨u,m,f⟩:=d.get E
  have hv':c[i]?=some v:=by simpa using l
  rw[hv'] at m;cases m;cases(show v=.bool _ from f);exact wpAny_truthy_bool y
 ·refine⟨.bl (bs.all id),H,I.kept λb o e=>B b o (λz=>?_) (zq _ e),?_,q⟩
  ·have z':b=s.heap.objs.size:=by simpa using z
   exact absurd (zg e) (by rw[z'];exact zQ _)
  ·have g:c.length=bs.length:=by have:=d.length;rw[zd] at this;exact this.symm
   have e:(List.range c.toArray.size).all (λi=>bs.getD i true)=bs.all id:=by
    rw[zr,g];rw[Bool.eq_iff_iff,jd,jd];constructor
    ·intro h x n;obtain⟨i,hi,rfl⟩:=List.mem_iff_getElem.mp n
     have:=h i (List.mem_range.mpr hi)
     rw[jg,zv hi] at this;exact this
    ·intro h i hi;have hi':=List.mem_range.mp hi;rw[jg,zv hi'];exact h _ (jq hi')
   show Value.bool _=Value.bool _;rw[e]
theorem WX(R:X.calm=true):gU X (.builtin "sum") (λxs H Q=>∃(a:Addr) (ns:List Int),xs=[.ref a]/\SqL X.K H a (ns.map V.int)/\(∀n∈ns,0<=n/\n<=1000000)/\ns.length<=1000000/\Q (.int ns.sum) H):=by
 intro pins s σ H xs Y Q I r h;obtain⟨a,ns,rfl,T,E,W,q⟩:=h;obtain⟨u,rfl,f⟩:=vals1 r;cases f;obtain⟨c,x,p,Z⟩:=I.list T;have m:a≠s.heap.objs.size:=zy (zg p.isList.choose_spec.1)
 have O:c.length=ns.length:=by have:=x.length;rw[zd] at this;exact this.symm
 have pre:∀j,j<=ns.length->preSum (λi=>ns.getD i 0) j=(ns.take j).sum/\0<=preSum (λi=>ns.getD i 0) j/\preSum (λi=>ns.getD i 0) j<=(j:Int) * 1000000:=by
  intro j
  induction j with
  |zero=>intro _;simp[preSum]
  |succ j ih =>
   intro C;obtain⟨e,J,G⟩:=ih (by omega)
   have hj':j<ns.length:=by omega
   have L:=E ns[j] (jq hj')
   have g:ns.getD j 0=ns[j]:=by rw[jg,zv hj'];rfl
   have U:preSum (λi=>ns.getD i 0) (j+1)=preSum (λi=>ns.getD i 0) j+ns[j]:=by
    rw[<-g];rfl
   refine⟨?_,by omega,by omega⟩;rw[U,e,List.take_succ_eq_append_getElem hj',List.sum_append];simp
 refine call_sum_walk (wpAny_pyIter_list p.isList ?_)
 refine⟨s.heap.objs.size,_,_,c.toArray.size,_,_,λi=>ns.getD i 0,rfl,Walks.list (A:=X.A.in1) (I.ok.hd R) s.heap.objs.size a m c.toArray,
  ⟨⟨_,zG _ rfl,rfl,rfl⟩,p.isList.at λo e=>zq _ e⟩,λb d=>?_,λi v y=>?_,λj C=>?_,λh' tk F P=>?_⟩
 ·have l:({s with heap:=s.heap.push {cls:=.type "list_iterator",data:=.fields #[.ref a,.int 0 0]}}:Shared).heap.objs.size=s.heap.objs.size+1:=Heap.size_push ..;rw[l]
  have z:b=s.heap.objs.size\/b=a:=by simpa using d
  have ha':a<s.heap.objs.size:=zg p.isList.choose_spec.1
  rcases z with z | z
  ·rw[z];exact je _
  ·rw[z];exact jn ha'
 ·have hi:i<c.length:=by
   have z:=Array.getElem?_eq_some_iff.mp y;simpa using z.1
  have d:(ns.map V.int)[i]?=some (V.int (ns.getD i 0)):=by
   rw[zF,zv (by omega),jg,zv (by omega)];rfl
  obtain⟨u,B,f⟩:=x.get d
  have hv':c[i]?=some v:=by simpa using y
  rw[hv'] at B;cases B;exact f
 ·rw[zr] at C
  have hj':j<ns.length:=by omega
  have L:=E ns[j] (jq hj')
  have g:ns.getD j 0=ns[j]:=by rw[jg,zv hj'];rfl
  obtain⟨_,J,G⟩:=pre (j+1) (by omega);unfold InLong;dsimp only;rw[g]
  constructor<;>constructor<;>omega
 ·obtain⟨e,_,_⟩:=pre ns.length (zb _);rw[List.take_length] at e;refine⟨.int ns.sum,H,I.kept λb o e=>P b o (λz=>?_) (zq _ e),⟨F,?_⟩,q⟩
  ·have z':b=s.heap.objs.size:=by simpa using z
   exact absurd (zg e) (by rw[z'];exact zQ _)
  ·rw[zr,O,e]
end
structure Blt(mg:Str->Option Value):Prop where
 len_:mg "len" = none
 isinstance_:mg "isinstance" = none
 all_:mg "all" = none
 sum_:mg "sum" = none
 max_:mg "max" = none
 min_:mg "min" = none
 int_:mg "int" = none
 str_:mg "str" = none
 bool_:mg "bool" = none
 list_:mg "list" = none
 tuple_:mg "tuple" = none
 dict_:mg "dict" = none
 range_:mg "range" = none
 enumerate_:mg "enumerate" = none
 zip_:mg "zip" = none
section
variable {X:Cx}
theorem JN{x:Str}{v:V}{a:Pos}(h:∃u,X.mg x=some u/\RelV v u)(c:Gl X x:=by rfl)(hd:(x == ("__debug__":Str))=false:=by decide):PE X (.Name x a) (tC v):=by
 obtain⟨u,b,r⟩:=h;exact RN c b r hd
end
def du{α:Type}(l:List α)(lo hi:Option Int):List α:=(l.drop (HT.sIx l.length 0 lo)).take (HT.sIx l.length l.length hi - HT.sIx l.length 0 lo)
theorem JP(l:List Nat)(lo hi:Option Int):Txt.slice (S l) lo hi=S (du l lo hi):=by
 obtain⟨h1,h2,h3⟩:=Jl lo hi l.length
 have e:Builtin.Str.strSliceIndices lo hi 1 (S l).length=(List.range (HT.sIx l.length l.length hi - HT.sIx l.length 0 lo)).map (HT.sIx l.length 0 lo + ·):=by
  rw[fM];show sliceRange (sliceBounds lo hi none l.length).1 (sliceBounds lo hi none l.length).2.1 (sliceBounds lo hi none l.length).2.2=_;rw[h1,h2,h3,sliceRange_one]
 unfold Txt.slice;rw[e,pick_run,pq]
 split
 ·rename_i h
  have c:HT.sIx l.length l.length hi - HT.sIx l.length 0 lo=l.length:=by simpa [fM] using h
  have b:HT.sIx l.length l.length hi<=l.length:=HT.sIx_le _ _ (zb _) hi;have a:HT.sIx l.length 0 lo<=l.length:=HT.sIx_le _ _ (Nat.zero_le _) lo
  have h0:HT.sIx l.length 0 lo=0:=by omega
  have h1:HT.sIx l.length l.length hi=l.length:=by omega
  unfold du;rw[h0,h1];simp
 ·rfl
section
variable {X:Cx}
def WY:V->Option Int->Option Int->Hp->VK->Prop:=λx lo hi H Q=>∃l,x=.str (S l)/\l.length<=sizeLine/\Q (.str (S (du l lo hi))) H
theorem part_of{v:Value}{o:Option Int}(p:IsPart v o):∃q:Option (Int×Tok),v=partValue q/\q.map (·.1)=o:=by
 cases p with
 |none=>exact⟨none,rfl,rfl⟩
 |int i t=>exact⟨some (i,t),rfl,rfl⟩
theorem W0:SlR X WY:=by
 intro pins s σ H x v vl r lo hi sl Q I c j g pu h;obtain⟨l,rfl,i,q⟩:=h;obtain⟨t,rfl⟩:=c;obtain⟨f,rfl,n⟩:=part_of g;obtain⟨d,rfl,m⟩:=part_of pu;refine⟨"str",_,F.slot_str_getitem.lookup,typeIs_str _ _ _,?_⟩;refine wpAny_getItem_str_slice (l:=f) (u:=d) (st:=none) j rfl ?_;have key:(if((1:Int) == 1&&(Builtin.Str.strSliceIndices lo hi 1 (S l).length).length == (S l).length)=true then S l else⟨((Builtin.Str.strSliceIndices lo hi 1 (S l).length).filterMap ((S l).cps[·]?)).toArray⟩)=S (du l lo hi):=JP l lo hi;unfold sliceMade slicePicked;rw[n,m];refine post_val_or_str ⟨?_,λa k=>?_⟩
 ·show(Txt.slice (S l) lo hi).length<=_;exact zM (Txt.slice_le _ _ _) (by rw[fM];exact i)
 ·have b:=JP l lo hi;unfold Txt.slice at b;show EP X pins σ Q (.str (if((1:Int) == 1&&(Builtin.Str.strSliceIndices lo hi 1 (S l).length).length == (S l).length)=true then S l else⟨((Builtin.Str.strSliceIndices lo hi 1 (S l).length).filterMap ((S l).cps[·]?)).toArray⟩) a) {s with toks:=k};rw[b];exact⟨.str _,H,I.tok k,⟨a,rfl⟩,q⟩
end
namespace HT2
theorem getItem_tuple_whole{prog:Program}{w:World}{A:Around}{E:Value->Shared->Prop}{s:Shared}{t sl:Addr}{items:Array Value}{vl j:Value}{lo hi:Option Int}{Q:Value->Shared->Prop}(a:IsTup s.heap t items)(l:s.heap.IsSliceOf sl vl j .none)(pl:IsPart vl lo)(pu:IsPart j hi)
  (hw:HT.sIx items.size 0 lo=0/\HT.sIx items.size items.size hi=items.size) (h:Q (.ref t) s):wpAny (model prog w) A (getItem (.ref t) (.ref sl)) Q E s:=by
 obtain⟨os,d,g,q⟩:=id l;have i:s.TypeIs (.ref sl) "slice":=⟨os,d,g⟩;unfold getItem
 try with_reducible refine zZ ?_
 first | refine za (zc ?_) | skip
 refine za (wpAny_sequenceKey a.typeIs (by decide) ?_)
 refine za (wpAny_callSpecial?_slot (name:=Str.ofString "__getitem__") a.typeIs PyProof.Rows.slot_tuple_getitem
  (wpAny_call_entry PyProof.Rows.slot_tuple_getitem a.typeIs entry_tuple_getitem ?_ (args_tuple_getitem _ _)))
 show wpAny _ _ (Builtin.Tuple.tupleItemsOf (.ref t) >>= _) _ _ s;refine za (tupleItemsOf_ a ?_);refine za (wpAny_typeOf i ?_);rw[if_pos (by decide)];refine za (HT.sliceApplied_gen l pl pu ?_)
 have b:(((HT.sIx items.size 0 lo:Nat):Int) == 0&&(1:Int) == 1&&(HT.sIx items.size items.size hi - HT.sIx items.size 0 lo) == items.size)=true:=by
  rw[hw.1,hw.2];simp
 show wpAny _ _ (if(((HT.sIx items.size 0 lo:Nat):Int) == 0&&(1:Int) == 1&&(HT.sIx items.size items.size hi - HT.sIx items.size 0 lo) == items.size)=true then _ else _) _ _ s;rw[if_pos b]
 have f:∀{n:Around}{m:Value->Shared->Prop}{c:Bool->Shared->Prop},c true s->wpAny (model prog w) n (Builtin.Tuple.tupleIsExact (.ref t)) c m s:=λ{n m c} hq=>by
  unfold Builtin.Tuple.tupleIsExact;exact za (wpAny_typeOf a.typeIs (zc hq))
 refine za (f ?_);rw[if_pos rfl];exact za (wpAny_rule (zc ⟨_,rfl,zc h⟩))
end HT2
section
variable {X:Cx}
def W2(K:PySem.W.Frag):V->Option Int->Option Int->Hp->VK->Prop:=λx lo hi H Q=>∃a b,x=.ref a/\SqT K H a b /\
 ((HT.sIx b.length 0 lo=0/\HT.sIx b.length b.length hi=b.length)->Q (.ref a) H)/\(¬(HT.sIx b.length 0 lo=0/\HT.sIx b.length b.length hi=b.length)->∀p,H p=none->Q (.ref p) (upd H p (.tup (jZ b lo hi))))
theorem W3(K:PySem.W.Frag)(q:X.K=K:=by rfl):SlR X (W2 K):=by
 subst q;intro pins s σ H x v vl l lo hi sl Q I d j f pu h;obtain⟨a,b,rfl,g,n,m⟩:=h
 by_cases hw:HT.sIx b.length 0 lo=0/\HT.sIx b.length b.length hi=b.length
 ·cases d;obtain⟨c,r,i,u⟩:=I.tuple g
  have hlen:c.toArray.size=b.length:=by rw[zr];exact r.length.symm
  exact⟨"tuple",_,PyProof.Rows.slot_tuple_getitem.lookup,i.typeIs,HT2.getItem_tuple_whole i j f pu (by rw[hlen];exact hw) ⟨.ref a,H,I,rfl,n hw⟩⟩
 ·exact Vr pins s σ H _ v vl l lo hi sl Q I d j f pu ⟨a,b,rfl,g,hw,m hw⟩
inductive TyQ (K:PySem.W.Frag) (H:Hp):V->String->Prop where
 | non:TyQ K H .non "NoneType"
 | bl (x:Bool):TyQ K H (.bl x) "bool"
 | int (i:Int):TyQ K H (.int i) "int"
 | str (x:Str):TyQ K H (.str x) "str"
 | lst {a:Addr}{xs:List V} (e:SqL K H a xs):TyQ K H (.ref a) "list"
 | tup {a:Addr}{xs:List V} (e:SqT K H a xs):TyQ K H (.ref a) "tuple"
 | dK {a:Addr}{kvs:List (Key×V)} (e:H a=some (.dK kvs)):TyQ K H (.ref a) "dict"
def W4(K:PySem.W.Frag):List V->Hp->VK->Prop:=λa H Q=>∃x n t b,a=[x,.ty n]/\TyQ K H x t/\PySem.W.kitOne K (.type t) (.type n)=some b/\Q (.bl b) H
theorem W5(K:PySem.W.Frag)(C:X.K=K:=by rfl):gU X (.builtin "isinstance") (W4 K):=by
 subst C;intro pins s σ H m E Q I r h;obtain⟨x,n,t,b,rfl,ty,e,q⟩:=h;obtain⟨u,c,rfl,f,B⟩:=vals2 r;cases(show c=.type n from B)
 have d:∀tk,EP X pins σ Q (.bool b) {s with toks:=tk}:=λtk=>⟨.bl b,H,I.tok tk,rfl,q⟩
 cases ty with
 |non=>exact rQ I f .non e d
 |bl y=>exact rQ I f (.bl y) e d
 |int i=>exact rQ I f (.int i) e d
 |str y=>exact rQ I f (.str y) e d
 | @lst a m ea =>
  cases(show u=Value.ref a from f);obtain⟨l,_,p,_⟩:=I.list ea;obtain⟨o,g,j,_⟩:=p.isList;exact PySem.W.kia_one PySem.W.kitx_list I.kIn ⟨o,g,j⟩ e (λz=>nomatch z) d
 | @tup a m ea =>
  cases(show u=Value.ref a from f);obtain⟨l,_,p,_⟩:=I.tuple ea;obtain⟨o,g,j,_⟩:=p;exact PySem.W.kia_one PySem.W.kitx_tuple I.kIn ⟨o,g,j⟩ e (λz=>nomatch z) d
 | @dK a kvs ea=>exact rQ I f (.dK ea) e d
theorem W6(K:PySem.W.Frag)(n:String):PySem.W.kitOne K (.type n) (.type n)=some true:=by
 unfold PySem.W.kitOne;rw[if_pos (beq_self_eq_true _)]
end
theorem sy:∀{ds:List PyData},(∀d∈ds,d.canLay0=true)->PyData.canLayAll0 ds=true
 | [],_=>rfl
 |d::ds,h=>by rw[PyData.canLayAll0,h d zp,sy λx a=>h x (zt _ a)];rfl
theorem sE{n:Nat}:∀{ds:List PyData},(∀d∈ds,d.depth<=n)->PyData.depthAll ds<=n
 | [],_=>by rw[PyData.depthAll];exact Nat.zero_le _
 |d::ds,h=>by
  rw[PyData.depthAll];exact Nat.max_le.mpr ⟨h d zp,sE λx a=>h x (zt _ a)⟩
theorem W7{n:Nat}(a:n<60){ds:List PyData}(h:∀d∈ds,d.canLay0=true/\d.depth<=n):okD (.list ds)=true:=by
 unfold okD;rw[zu];refine⟨?_,zj ?_⟩
 ·show PyData.canLayAll0 ds=true
  exact sy λd hd=>(h d hd).1
 ·show PyData.depthAll ds+1<=60
  have:=sE λd hd=>(h d hd).2
  omega
section
variable {X:Cx}
def W8:R2:=λx y H Q=>∃(l:List Nat) (n:Int),x=.str (S l)/\y=.int n/\-1000000<n/\n<1000000/\l.length * n.toNat<=16777216/\Q (.str (S (List.replicate n.toNat l).flatten)) H
theorem JQ(l:List Nat):∀(n:Nat) (a:Array Nat),(List.replicate n (S l).cps).foldl (· ++ ·) a=a++(List.replicate n l).flatten.toArray
 | 0,a=>by simp
 |n+1,a=>by
  rw[List.replicate_succ,List.foldl_cons,JQ l n,List.replicate_succ,List.flatten_cons];simp[S]
theorem W9:OpR X (binaryOp .Mult) W8:=by
 intro pins s σ H x y v u Q I c b h;obtain⟨l,n,rfl,rfl,h1,h2,h3,q⟩:=h;obtain⟨t,rfl⟩:=c;obtain⟨m,rfl⟩:=b;have r:sizeLine=16777216:=sizeLine_eq
 by_cases g:n<1
 ·have j:n.toNat=0:=by omega
  rw[j] at q;exact P.mul_str_none g (by omega) ⟨.str (S []),H,I.tok _,⟨s.toks,rfl⟩,q⟩
 refine P.mul_str ?_ (λ_ _=>?_) (λ_ _=>?_) ?_
 ·rw[zf (by omega),zf (by omega)];rfl
 ·rw[fM];intro d
  have h4:(l.length:Int) * n<=16777216:=by
   have:((l.length * n.toNat:Nat):Int)<=16777216:=by omega
   rw[Int.natCast_mul,Int.toNat_of_nonneg (by omega)] at this;exact this
  have i:(2 ^ 63 - 1) / n<(l.length:Int):=d;have B:=(Int.ediv_lt_iff_lt_mul (show 0<n by omega)).mp i;omega
 ·rw[fM];unfold Builtin.Str.tooLong;exact zf (by omega)
 ·rw[if_neg (by omega)]
  by_cases a:(n == 1 || (S l).length == 0)=true
  ·rw[if_pos a]
   have e:(List.replicate n.toNat l).flatten=l:=by
    rw[Bool.or_eq_true,beq_iff_eq,beq_iff_eq,fM] at a
    rcases a with z | z
    ·rw[z];show(List.replicate 1 l).flatten=l;simp
    ·have z':=List.eq_nil_of_length_eq_zero z;subst z';rw[List.flatten_eq_nil_iff];intro x f;exact(List.mem_replicate.mp f).2
   rw[e] at q;exact⟨.str (S l),H,I,⟨t,rfl⟩,q⟩
  ·rw[if_neg a,JQ];refine⟨?_,.str (S (List.replicate n.toNat l).flatten),H,I.tok _,⟨s.toks,?_⟩,q⟩
   ·show(#[]++(List.replicate n.toNat l).flatten.toArray).size<=sizeLine;simp only[Array.size_append,zr,List.length_flatten,List.map_replicate,List.sum_replicate_nat];simp;rw[Nat.mul_comm];omega
   ·congr 1;simp[S]
end
inductive D where
 | non | bl (b:Bool) | int (i:Int) | str (l:List Nat) | lst (ds:List D) | tup (ds:List D) | dic (ks vs:List D) | ob (n:Nat)
inductive Ob where
 | ins (c:Str) (fs:List (Str×D))
 | ml (ds:List D)
 | dt (kvs:List (List Key×D))
 | df (kvs:List (List Key×D))
 | dk (kvs:List (Key×D))
abbrev ak:=List Ob
abbrev az:=List (Option D)
structure Xc where
 cls:Str
 fs:List (Str×D)
inductive Res (α:Type) where
 | ok (a:α) (O:ak) | ex (x:Xc) (O:ak) | no
inductive Fl where
 | nx (ρ:az) (O:ak) | rt (d:D) (O:ak) | bk (ρ:az) (O:ak) | ct (ρ:az) (O:ak) | ex (x:Xc) (O:ak) | no
abbrev M(α:Type):=az->ak->Res α
abbrev MS:=az->ak->Fl
def Res.bind{α β:Type}(r:Res α)(f:α->ak->Res β):Res β:=match r with
 | .ok a O=>f a O
 | .ex x O=>.ex x O
 | .no=>.no
theorem Res.bind_ok{α β:Type}{r:Res α}{f:α->ak->Res β}{b:β}{c:ak}(h:r.bind f=.ok b c):∃a O,r=.ok a O/\f a O=.ok b c:=by
 cases r with
 |ok a O=>exact⟨a,O,rfl,h⟩
 |ex x O=>cases h
 |no=>cases h
def sG:Expr->Bool
 | .Starred _ _=>false
 | _=>true
theorem di{e:Expr}{es:List Expr}{env:Env}(h:sG e=true):starEach (e::es) env=(false,eval e env)::starEach es env:=by
 cases e<;>first | rfl | cases h
theorem eU{a:Pos}{env:Env}:∀{es:List Expr},es.all sG=true->(backTo a (starEach es env)).any (·.1)=false
 | [],_=>by simp[starEach,backTo]
 |e::es,h=>by
  rw[List.all_cons,zu] at h;rw[di h.1];show(false || (backTo a (starEach es env)).any (·.1))=false;rw[eU h.2];rfl
theorem sH{e:Expr}{env:Env}(h:sG e=true):starEach [e] env=[(false,eval e env)]:=by rw[di h];simp[starEach]
theorem Xa{e f:Expr}{env:Env}(h:sG e=true)(h':sG f=true):starEach [e,f] env=[(false,eval e env),(false,eval f env)]:=by rw[di h,sH h']
abbrev Frag:=PySem.W.Frag
def vD:Key->D
 | .inl i=>.int i
 | .inr x=>.str x.cps.toList
def RdK(K:Frag)(H:Hp)(a:Addr)(xs:List V):Prop:=Rd H a (.lst xs)\/∃(b:List Value) (n:Nat),K.lookup a=some {cls:=.type "list",data:=.seq b.toArray n}/\b.length<=sizeLine/\aU xs b
theorem RdK.sq{K:Frag}{H:Hp}{a:Addr}{xs:List V}(h:RdK K H a xs):SqL K H a xs:=by
 rcases h with h | ⟨b,n,h1,h2,h3⟩
 ·exact .inl h
 ·exact .inr ⟨_,b.toArray,n,h1,rfl,rfl,rfl,by simpa using h2,by simpa using h3⟩
theorem RdK.ok{X:Cx}{pins:List (Addr×Obj)}{σ:St}{H:Hp}{s:Shared}{a:Addr}{xs:List V}(h:RdK X.K H a xs)(I:Inv X pins σ H s):xs.length<=sizeLine/\∃(its:List Value) (n:Nat),aU xs its/\s.heap.get? a=some {cls:=.type "list",data:=.seq its.toArray n}:=by
 rcases h with h | ⟨its,n,h1,h2,h3⟩
 ·exact h.ok I.hok
 ·exact⟨by rw[h3.length];exact h2,its,n,h3,I.kIn a _ h1⟩
def TqT(K:Frag)(F:Hp)(a:Addr)(xs:List V):Prop :=
 F a=some (.tup xs)\/∃(o:Obj) (b:Array Value) (n:Nat),K.lookup a=some o/\o.cls=.type "tuple"/\o.data=.seq b n/\b.size<=sizeLine/\aU xs b.toList
theorem TqT.sq{K:Frag}{F:Hp}{a:Addr}{xs:List V}(h:TqT K F a xs):SqT K F a xs:=h.imp .inl id
mutual
def Rp(K:Frag)(F:Hp)(as:List Addr):V->D->Prop
 |v,.non=>v=.non
 |v,.bl b=>v=.bl b
 |v,.int i=>v=.int i
 |v,.str l=>v=.str (S l)
 |v,.lst ds=>∃a d,v=.ref a/\RdK K F a d/\Rps K F as d ds
 |v,.tup ds=>∃a d,v=.ref a/\TqT K F a d/\Rps K F as d ds
 |v,.dic ks vs=>∃(a:Addr) (c:List (Key×V)),v=.ref a/\F a=some (.dK c)/\ks=c.map (λp=>vD p.1)/\Rps K F as (c.map (·.2)) vs
 |v,.ob n=>∃a,v=.ref a/\as[n]?=some a
def Rps(K:Frag)(F:Hp)(as:List Addr):List V->List D->Prop
 |xs,[]=>xs=[]
 |xs,d::ds=>∃x r,xs=x::r/\Rp K F as x d/\Rps K F as r ds
end
section
variable {K:Frag}{F F':Hp}{as as':List Addr}
theorem Rd.mono{H b:Hp}{a:Addr}{u:HO}(e:Same H b)(h:Rd H a u):Rd b a u:=by
 rcases h with h | ⟨o,h⟩
 ·exact .inl (e _ _ h)
 ·exact .inr ⟨o,e _ _ h⟩
theorem RdK.mono{H b:Hp}{a:Addr}{xs:List V}(e:Same H b)(h:RdK K H a xs):RdK K b a xs:=h.imp (λz=>z.mono e) id
mutual
theorem Rp.mono(e:Same F F')(c:∀(n:Nat) (a:Addr),as[n]?=some a->as'[n]?=some a):∀(d:D) {v:V},Rp K F as v d->Rp K F' as' v d
 | .non,v,h=>by rw[Rp] at h ⊢;exact h
 | .bl b,v,h=>by rw[Rp] at h ⊢;exact h
 | .int i,v,h=>by rw[Rp] at h ⊢;exact h
 | .str x,v,h=>by rw[Rp] at h ⊢;exact h
 | .lst ds,v,h=>by
  rw[Rp] at h ⊢;obtain⟨a,f,h1,h2,h3⟩:=h;exact⟨a,f,h1,h2.mono e,Rps.mono e c ds h3⟩
 | .tup ds,v,h=>by
  rw[Rp] at h ⊢;obtain⟨a,f,h1,h2,h3⟩:=h;exact⟨a,f,h1,h2.imp (e _ _) id,Rps.mono e c ds h3⟩
 | .dic ks vs,v,h=>by
  rw[Rp] at h ⊢;obtain⟨a,g,h1,h2,h3,h4⟩:=h;exact⟨a,g,h1,e _ _ h2,h3,Rps.mono e c vs h4⟩
 | .ob n,v,h=>by
  rw[Rp] at h ⊢;obtain⟨a,h1,h2⟩:=h;exact⟨a,h1,c _ _ h2⟩
theorem Rps.mono(e:Same F F')(b:∀(n:Nat) (a:Addr),as[n]?=some a->as'[n]?=some a):∀(ds:List D) {xs:List V},Rps K F as xs ds->Rps K F' as' xs ds
 | [],xs,h=>by rw[Rps] at h ⊢;exact h
 |d::ds,xs,h=>by
  rw[Rps] at h ⊢;obtain⟨x,r,h1,h2,h3⟩:=h;exact⟨x,r,h1,Rp.mono e b d h2,Rps.mono e b ds h3⟩
end
theorem Rp.non:Rp K F as .non .non:=by rw[Rp]
theorem Rp.bl{b:Bool}:Rp K F as (.bl b) (.bl b):=by rw[Rp]
theorem Rp.int{i:Int}:Rp K F as (.int i) (.int i):=by rw[Rp]
theorem Rp.str{l:List Nat}:Rp K F as (.str (S l)) (.str l):=by rw[Rp]
theorem Rp.unN{v:V}(h:Rp K F as v .non):v=.non:=by rw[Rp] at h;exact h
theorem Rp.unB{v:V}{b:Bool}(h:Rp K F as v (.bl b)):v=.bl b:=by rw[Rp] at h;exact h
theorem Rp.unI{v:V}{i:Int}(h:Rp K F as v (.int i)):v=.int i:=by rw[Rp] at h;exact h
theorem Rp.unS{v:V}{l:List Nat}(h:Rp K F as v (.str l)):v=.str (S l):=by rw[Rp] at h;exact h
theorem Rp.unL{v:V}{ds:List D}(h:Rp K F as v (.lst ds)):∃a xs,v=.ref a/\RdK K F a xs/\Rps K F as xs ds:=by rw[Rp] at h;exact h
theorem Rp.unT'{v:V}{ds:List D}(h:Rp K F as v (.tup ds)):∃a xs,v=.ref a/\TqT K F a xs/\Rps K F as xs ds:=by rw[Rp] at h;exact h
theorem Rp.unT{v:V}{ds:List D}(h:Rp K F as v (.tup ds)):∃a xs,v=.ref a/\SqT K F a xs/\Rps K F as xs ds:=let ⟨a,xs,e,h1,h2⟩:=h.unT';⟨a,xs,e,h1.sq,h2⟩
theorem Rp.unO{v:V}{n:Nat}(h:Rp K F as v (.ob n)):∃a,v=.ref a/\as[n]?=some a:=by rw[Rp] at h;exact h
theorem Rp.unD{v:V}{c vs:List D}(h:Rp K F as v (.dic c vs)):∃(a:Addr) (b:List (Key×V)),v=.ref a/\F a=some (.dK b)/\c=b.map (λp=>vD p.1)/\Rps K F as (b.map (·.2)) vs:=by rw[Rp] at h;exact h
theorem Rp.mkL{a:Addr}{xs:List V}{ds:List D}(h:RdK K F a xs)(b:Rps K F as xs ds):Rp K F as (.ref a) (.lst ds):=by rw[Rp];exact⟨a,xs,rfl,h,b⟩
theorem Rp.mkT{a:Addr}{xs:List V}{ds:List D}(h:TqT K F a xs)(b:Rps K F as xs ds):Rp K F as (.ref a) (.tup ds):=by rw[Rp];exact⟨a,xs,rfl,h,b⟩
theorem Rp.mkO{a:Addr}{n:Nat}(h:as[n]?=some a):Rp K F as (.ref a) (.ob n):=by rw[Rp];exact⟨a,rfl,h⟩
theorem Rps.nil:Rps K F as [] []:=by rw[Rps]
theorem Rps.cons{x:V}{xs:List V}{d:D}{ds:List D}(h:Rp K F as x d)(a:Rps K F as xs ds):Rps K F as (x::xs) (d::ds):=by
 rw[Rps];exact⟨x,xs,rfl,h,a⟩
theorem Rps.un{xs:List V}{d:D}{ds:List D}(h:Rps K F as xs (d::ds)):∃x r,xs=x::r/\Rp K F as x d/\Rps K F as r ds:=by rw[Rps] at h;exact h
theorem Rps.un0{xs:List V}(h:Rps K F as xs []):xs=[]:=by rw[Rps] at h;exact h
theorem Rps.length:∀{ds:List D}{xs:List V},Rps K F as xs ds->xs.length=ds.length
 | [],xs,h=>by rw[h.un0];rfl
 |d::ds,xs,h=>by
  obtain⟨x,r,rfl,_,h3⟩:=h.un;simp[Rps.length h3]
theorem Rps.get:∀{ds:List D}{xs:List V}{i:Nat}{x:V},Rps K F as xs ds->xs[i]?=some x->∃d,ds[i]?=some d/\Rp K F as x d
 | [],xs,i,x,h,e=>by rw[h.un0] at e;simp at e
 |d::ds,xs,i,x,h,e=>by
  obtain⟨y,r,rfl,h2,h3⟩:=h.un
  cases i with
  |zero=>simp at e;subst e;exact⟨d,rfl,h2⟩
  |succ i =>
   obtain⟨b,a,q⟩:=Rps.get (i:=i) (x:=x) h3 (by simpa using e);exact⟨b,by simpa using a,q⟩
theorem Rps.get':∀{ds:List D}{xs:List V}{i:Nat}{d:D},Rps K F as xs ds->ds[i]?=some d->∃x,xs[i]?=some x/\Rp K F as x d:=by
 intro ds xs i d h e;have b:=h.length
 have hi:i<xs.length:=by rw[b];exact(zl.mp e).1
 obtain⟨c,a,q⟩:=h.get (zv hi);rw[e] at a;cases a;exact⟨_,zv hi,q⟩
theorem Rps.append{ys:List V}{es:List D}(a:Rps K F as ys es):∀{ds:List D}{xs:List V},Rps K F as xs ds->Rps K F as (xs++ys) (ds++es)
 | [],xs,h=>by rw[h.un0];exact a
 |e::ds,xs,h=>by
  obtain⟨y,r,rfl,h2,h3⟩:=h.un;exact Rps.cons h2 (Rps.append a h3)
theorem Rps.snoc{x:V}{d:D}{ds:List D}{xs:List V}(h:Rps K F as xs ds)(a:Rp K F as x d):Rps K F as (xs++[x]) (ds++[d]):=Rps.append (Rps.cons a Rps.nil) h
theorem Rps.take:∀{ds:List D}{xs:List V} (n:Nat),Rps K F as xs ds->Rps K F as (xs.take n) (ds.take n)
 | _,_,0,_=>by simpa using Rps.nil
 | [],xs,n+1,h=>by rw[h.un0];simpa using Rps.nil
 |d::ds,xs,n+1,h=>by
  obtain⟨y,r,rfl,h2,h3⟩:=h.un;exact Rps.cons h2 (Rps.take n h3)
theorem Rps.drop:∀{ds:List D}{xs:List V} (n:Nat),Rps K F as xs ds->Rps K F as (xs.drop n) (ds.drop n)
 | _,_,0,h=>by simpa using h
 | [],xs,n+1,h=>by rw[h.un0];simpa using Rps.nil
 |d::ds,xs,n+1,h=>by
  obtain⟨y,r,rfl,h2,h3⟩:=h.un;exact Rps.drop n h3
theorem Rps.rep{ds:List D}{xs:List V}(h:Rps K F as xs ds):∀n:Nat,Rps K F as (List.replicate n xs).flatten (List.replicate n ds).flatten
 | 0=>by simpa using Rps.nil
 |n+1=>by
  rw[List.replicate_succ,List.replicate_succ,List.flatten_cons,List.flatten_cons];exact Rps.append (Rps.rep h n) h
end
def isD:HO->Bool
 | .ins _ _ _=>false
 | .own _=>false
 | .xd _=>false
 | _=>true
def isL:HO->Bool
 | .lst _=>true
 | .dK _=>true
 | _=>false
theorem JR{o:HO}(h:isL o=true):isD o=true:=by
 cases o<;>first | rfl | cases h
structure Gr(H F:Hp)(as:List Addr)(H' F':Hp)(as':List Addr):Prop where
 fz:∀a o,H a=some o->a∉as->isL o=true->F' a=F a
 ff:Same F F'
 nw:∃new,as'=as++new/\∀a∈new,H a=none
 fr:∀a o,H a=some o->a∉as->isD o=true->H' a=some o
 dm:∀a,H' a=none->H a=none
 kz:∀a o u,H a=some (.frz o u)->H' a=some (.frz o u)
structure Pt where
 p:Addr->Prop
 ss:List (Nat×V×D)
instance:CoeFun Pt (λ_=>Addr->Prop):=⟨Pt.p⟩
def Pt.all(H:Hp):Pt:=⟨λa=>H a≠none,[]⟩
structure GrS(P:Pt)(H F:Hp)(as:List Addr)(H' F':Hp)(as':List Addr):Prop where
 fz:∀a o,P a->H a=some o->a∉as->isL o=true->F' a=F a
 ff:Same F F'
 nw:∃new,as'=as++new/\∀a∈new,H a=none
 fr:∀a o,P a->H a=some o->a∉as->isD o=true->H' a=some o
 dm:∀a,H' a=none->H a=none
 kz:∀a o u,H a=some (.frz o u)->H' a=some (.frz o u)
section
variable {H F H' F' H2 F2:Hp}{as as' as2:List Addr}{P:Pt}
theorem Gr.refl:Gr H F as H F as:=⟨λ_ _ _ _ _=>rfl,Same.refl F,⟨[],by simp,λ_ h=>nomatch h⟩,λ_ _ h _ _=>h,λ_ h=>h,λ_ _ _ h=>h⟩
theorem Gr.trans(a:Gr H F as H' F' as')(b:Gr H' F' as' H2 F2 as2):Gr H F as H2 F2 as2:=by
 obtain⟨j,g,h1⟩:=a.nw;obtain⟨i,l,h2⟩:=b.nw;refine⟨λc o f d hd=>?_,a.ff.trans b.ff,⟨j++i,by rw[l,g,zI],λc f=>?_⟩,λc o e d hd=>?_,λc h=>a.dm c (b.dm c h),λc o u h=>b.kz c o u (a.kz c o u h)⟩
 ·have q:=a.fr c o f d (JR hd);refine(b.fz c o q ?_ hd).trans (a.fz c o f d hd);rw[g];intro z
  rcases zz.mp z with z | z
  ·exact d z
  ·rw[h1 c z] at f;cases f
 ·rcases zz.mp f with z | z
  ·exact h1 c z
  ·exact a.dm c (h2 c z)
 ·have q:=a.fr c o e d hd;refine b.fr c o q ?_ hd;rw[g];intro z
  rcases zz.mp z with z | z
  ·exact d z
  ·rw[h1 c z] at e;cases e
theorem Gr.toS(a:Gr H F as H' F' as'):GrS P H F as H' F' as':=⟨λc o _=>a.fz c o,a.ff,a.nw,λc o _ e b hd=>a.fr c o e b hd,a.dm,a.kz⟩
theorem GrS.refl:GrS P H F as H F as:=Gr.refl.toS
theorem GrS.trans(a:GrS P H F as H' F' as')(b:GrS P H' F' as' H2 F2 as2):GrS P H F as H2 F2 as2:=by
 obtain⟨j,g,h1⟩:=a.nw;obtain⟨i,l,h2⟩:=b.nw;refine⟨λc o p f d hd=>?_,a.ff.trans b.ff,⟨j++i,by rw[l,g,zI],λc f=>?_⟩,λc o p e d hd=>?_,λc h=>a.dm c (b.dm c h),λc o u h=>b.kz c o u (a.kz c o u h)⟩
 ·have q:=a.fr c o p f d (JR hd);refine(b.fz c o p q ?_ hd).trans (a.fz c o p f d hd);rw[g];intro z
  rcases zz.mp z with z | z
  ·exact d z
  ·rw[h1 c z] at f;cases f
 ·rcases zz.mp f with z | z
  ·exact h1 c z
  ·exact a.dm c (h2 c z)
 ·have q:=a.fr c o p e d hd;refine b.fr c o p q ?_ hd;rw[g];intro z
  rcases zz.mp z with z | z
  ·exact d z
  ·rw[h1 c z] at e;cases e
theorem GrS.mono{b:Pt}(a:GrS P H F as H' F' as')(h:∀c,b c->P c):GrS b H F as H' F' as':=⟨λc o p=>a.fz c o (h c p),a.ff,a.nw,λc o p=>a.fr c o (h c p),a.dm,a.kz⟩
theorem GrS.gr(a:GrS (Pt.all H) H F as H' F' as'):Gr H F as H' F' as':=⟨λc o e=>a.fz c o (show H c≠none by rw[e];exact λz=>nomatch z) e,a.ff,a.nw,λc o e=>a.fr c o (show H c≠none by rw[e];exact λz=>nomatch z) e,a.dm,a.kz⟩
theorem Gr.at_(a:Gr H F as H' F' as'):∀(n:Nat) (c:Addr),as[n]?=some c->as'[n]?=some c:=λn c h=>by
 obtain⟨b,e,_⟩:=a.nw;rw[e,zA (zl.mp h).1];exact h
theorem GrS.at_(a:GrS P H F as H' F' as'):∀(n:Nat) (c:Addr),as[n]?=some c->as'[n]?=some c:=λn c h=>by
 obtain⟨b,e,_⟩:=a.nw;rw[e,zA (zl.mp h).1];exact h
theorem Gr.out(a:Gr H F as H' F' as'){c:Addr}(h:c∉as)(e:H c≠none):c∉as':=by
 obtain⟨d,b,h1⟩:=a.nw;rw[b];intro z
 rcases zz.mp z with z | z
 ·exact h z
 ·exact e (h1 c z)
theorem GrS.out(a:GrS P H F as H' F' as'){c:Addr}(h:c∉as)(e:H c≠none):c∉as':=by
 obtain⟨d,b,h1⟩:=a.nw;rw[b];intro z
 rcases zz.mp z with z | z
 ·exact h z
 ·exact e (h1 c z)
theorem Rp.gr{K:Frag}{v:V}{d:D}(h:Rp K F as v d)(a:Gr H F as H' F' as'):Rp K F' as' v d:=Rp.mono a.ff a.at_ d h
theorem Rps.gr{K:Frag}{v:List V}{d:List D}(h:Rps K F as v d)(a:Gr H F as H' F' as'):Rps K F' as' v d:=Rps.mono a.ff a.at_ d h
theorem Rp.grS{K:Frag}{v:V}{d:D}(h:Rp K F as v d)(a:GrS P H F as H' F' as'):Rp K F' as' v d:=Rp.mono a.ff a.at_ d h
theorem Rps.grS{K:Frag}{v:List V}{d:List D}(h:Rps K F as v d)(a:GrS P H F as H' F' as'):Rps K F' as' v d:=Rps.mono a.ff a.at_ d h
end
structure FsR(K:Frag)(F:Hp)(as:List Addr)(gs:List (Str×V))(fs:List (Str×D)):Prop where
 nm:gs.map (·.1)=fs.map (·.1)
 vl:Rps K F as (gs.map (·.2)) (fs.map (·.2))
def ObR(K:Frag)(mg:Str->Option Value)(H F:Hp)(as:List Addr)(a:Addr):Ob->Prop
 | .ins c fs=>∃C f d,mg c=some (.ref C)/\H a=some (.ins C f d)/\FsR K F as d fs
 | .ml ds=>∃b,H a=some (.lst b)/\Rps K F as b ds
 | .dt kvs=>∃b:List (List Key×V),H a=some (.dT b)/\b.map (·.1)=kvs.map (·.1)/\Rps K F as (b.map (·.2)) (kvs.map (·.2))
 | .df kvs=>∃(o:Obj) (b:List (List Key×V)),H a=some (.frz o (.dT b))/\b.map (·.1)=kvs.map (·.1)/\Rps K F as (b.map (·.2)) (kvs.map (·.2))
 | .dk kvs=>∃b:List (Key×V),H a=some (.dK b)/\b.map (·.1)=kvs.map (·.1)/\Rps K F as (b.map (·.2)) (kvs.map (·.2))
structure RlO(K:Frag)(mg:Str->Option Value)(O:ak)(H F:Hp)(as:List Addr):Prop where
 fh:Same F H
 fd:∀a o,F a=some o->isD o=true
 nd:as.Nodup
 len:as.length=O.length
 fa:∀a∈as,F a=none
 ob:∀(n:Nat) (a:Addr) (o:Ob),as[n]?=some a->O[n]?=some o->ObR K mg H F as a o
inductive Md where
 | v | s | o
 deriving DecidableEq
def jD:D->Bool
 | .lst _=>false
 | _=>true
def fY(P:Pt)(K:Frag)(H F:Hp)(as:List Addr):Md->V->D->Prop
 | .v,v,d=>Rp K F as v d
 | .s,v,d=>Rp K F as v d\/∃a b c,v=.ref a/\d=.lst c/\H a=some (.lst b)/\a∉as/\P a/\Rps K F as b c
 | .o,v,d=>(jD d=true/\Rp K F as v d)\/∃a b c,v=.ref a/\d=.lst c/\H a=some (.lst b)/\F a=none/\a∉as/\¬P a/\Rps K F as b c
structure SlO(K:Frag)(md:List Md)(P:Pt)(ρ:az)(σ:St)(H F:Hp)(as:List Addr):Prop where
 len:σ.length=md.length
 len':ρ.length=md.length
 pd:∀a,P a->H a≠none
 sl:∀(i:Nat) (m:Md) (d:D),md[i]?=some m->ρ[i]?=some (some d)->∃v,σ[i]?=some (some v)/\fY P K H F as m v d
 inj:∀(i j:Nat) (a:Addr) (ds es:List D),md[i]?=some .o->md[j]?=some .o->ρ[i]?=some (some (.lst ds))->ρ[j]?=some (some (.lst es))->σ[i]?=some (some (.ref a))->σ[j]?=some (some (.ref a))->i=j
 pin:∀x∈P.ss,md[x.1]?=some .s/\ρ[x.1]?=some (some x.2.2)/\σ[x.1]?=some (some x.2.1)
section
variable {K:Frag}{mg:Str->Option Value}{md:List Md}{P:Pt}{ρ:az}{σ:St}{H F H' F':Hp}{as as':List Addr}{O O':ak}
theorem fY.step{m:Md}{v:V}{d:D}(h:fY P K H F as m v d)(g:Gr H F as H' F' as'):fY P K H' F' as' m v d:=by
 cases m with
 |v=>exact Rp.gr (show Rp K F as v d from h) g
 |s =>
  rcases h with h | ⟨a,f,q,n,l,c,b,j,i⟩
  ·exact .inl (h.gr g)
  ·exact .inr ⟨a,f,q,n,l,g.fr _ _ c b rfl,g.out b (by rw[c];exact λz=>nomatch z),j,i.gr g⟩
 |o =>
  rcases h with⟨h1,h⟩ | ⟨a,f,q,n,l,c,u,b,j,i⟩
  ·exact .inl ⟨h1,h.gr g⟩
  ·have r:H a≠none:=by rw[c];exact λz=>nomatch z
   exact .inr ⟨a,f,q,n,l,g.fr _ _ c b rfl,by rw[g.fz a _ c b rfl];exact u,g.out b r,j,i.gr g⟩
theorem SlO.step(h:SlO K md P ρ σ H F as)(g:Gr H F as H' F' as'):SlO K md P ρ σ H' F' as' :=
 ⟨h.len,h.len',λa p z=>h.pd a p (g.dm a z),λi m d c b=>let ⟨v,q,r⟩:=h.sl i m d c b;⟨v,q,r.step g⟩,h.inj,h.pin⟩
end
def Sv(K:Frag)(H F:Hp)(as:List Addr)(v:V)(d:D):Prop :=
 Rp K F as v d\/∃a b c,v=.ref a/\d=.lst c/\H a=some (.lst b)/\a∉as/\Rps K F as b c
def Lk(K:Frag)(H F:Hp)(as:List Addr)(v:V)(d:D):Prop :=
 Rp K F as v d\/∃a b c,v=.ref a/\d=.lst c/\H a=some (.lst b)/\Rps K F as b c
def Ow(K:Frag)(N:Addr->Prop)(H F:Hp)(as:List Addr)(v:V)(d:D):Prop :=
 (jD d=true/\Rp K F as v d)\/∃a b c,v=.ref a/\d=.lst c/\H a=some (.lst b)/\F a=none/\a∉as/\N a/\Rps K F as b c
def bG(O:ak)(d:D):D:=match d with
 | .ob n=>match O[n]? with
  |some (.ml ds)=>.lst ds
  | _=>.ob n
 |d=>d
section
variable {K:Frag}{mg:Str->Option Value}{H0 H F H' F':Hp}{as as':List Addr}{O:ak}{v:V}{d:D}
theorem Sv.gr(h:Sv K H F as v d)(g:Gr H F as H' F' as'):Sv K H' F' as' v d:=by
 rcases h with h | ⟨a,f,m,l,j,c,b,i⟩
 ·exact .inl (h.gr g)
 ·exact .inr ⟨a,f,m,l,j,g.fr _ _ c b rfl,g.out b (by rw[c];exact λz=>nomatch z),i.gr g⟩
theorem Sv.lk(h:Sv K H F as v d)(r:RlO K mg O H F as):Lk K H F as v (bG O d):=by
 rcases h with h | ⟨a,b,c,rfl,rfl,i,m,g⟩
 ·cases d with
  |ob n =>
   obtain⟨a,rfl,f⟩:=h.unO;unfold bG;dsimp only
   split
   ·rename_i c e;obtain⟨b,l,j⟩:=r.ob n a _ f e;exact .inr ⟨a,b,c,rfl,rfl,l,j⟩
   ·exact .inl (Rp.mkO f)
  | _=>exact .inl h
 ·exact .inr ⟨a,b,c,rfl,rfl,i,g⟩
theorem Lk.list{ds:List D}(h:Lk K H F as v (.lst ds))(fh:Same F H):∃a xs,v=.ref a/\RdK K H a xs/\Rps K F as xs ds:=by
 rcases h with h | ⟨a,xs,i,g,f,c,b⟩
 ·obtain⟨a,xs,e,h1,h2⟩:=h.unL;exact⟨a,xs,e,h1.mono fh,h2⟩
 ·cases f;exact⟨a,xs,g,.inl (.inl c),b⟩
theorem Lk.rp(h:Lk K H F as v d)(b:jD d=true):Rp K F as v d:=by
 rcases h with h | ⟨a,f,c,j,rfl,i,g⟩
 ·exact h
 ·cases b
theorem Sv.rp(h:Sv K H F as v d)(b:jD d=true):Rp K F as v d:=by
 rcases h with h | ⟨a,f,c,j,rfl,i,g⟩
 ·exact h
 ·cases b
theorem Ow.sv{N:Addr->Prop}(h:Ow K N H F as v d):Sv K H F as v d:=by
 rcases h with⟨_,h⟩ | ⟨a,b,l,j,i,g,n,f,m,c⟩
 ·exact .inl h
 ·exact .inr ⟨a,b,l,j,i,g,f,c⟩
theorem Gr.lay{p:Addr}{o:HO}(b:H p=none):Gr H F as (upd H p o) F as :=
 ⟨λ_ _ _ _ _=>rfl,Same.refl F,⟨[],by simp,λ_ h=>nomatch h⟩,λa c e _ _=>by rw[aO (cN e b)];exact e,λa e=>by
  by_cases h:a=p
  ·subst h;exact b
  ·rwa [aO h] at e,λa c u e=>by rw[aO (cN e b)];exact e⟩
theorem ObR.keep{a:Addr}{o:Ob}(h:ObR K mg H F as a o)(f:H' a=H a)(e:Same F F')(g:∀(n:Nat) (a:Addr),as[n]?=some a->as'[n]?=some a):ObR K mg H' F' as' a o:=by
 cases o with
 |ins c fs =>
  obtain⟨C,j,i,h1,h2,h3,h4⟩:=h;exact⟨C,j,i,h1,by rw[f];exact h2,h3,Rps.mono e g _ h4⟩
 |ml ds =>
  obtain⟨b,h1,h2⟩:=h;exact⟨b,by rw[f];exact h1,Rps.mono e g _ h2⟩
 |dt kvs =>
  obtain⟨b,h1,h2,h3⟩:=h;exact⟨b,by rw[f];exact h1,h2,Rps.mono e g _ h3⟩
 |df kvs =>
  obtain⟨o,b,h1,h2,h3⟩:=h;exact⟨o,b,by rw[f];exact h1,h2,Rps.mono e g _ h3⟩
 |dk kvs =>
  obtain⟨b,h1,h2,h3⟩:=h;exact⟨b,by rw[f];exact h1,h2,Rps.mono e g _ h3⟩
theorem RlO.at{n:Nat}{a:Addr}{o:Ob}(r:RlO K mg O H F as)(h:as[n]?=some a)(g:O[n]?=some o):H a≠none:=by
 have q:=r.ob n a o h g
 cases o with
 |ins c fs=>obtain⟨C,j,i,h1,h2,_⟩:=q;rw[h2];exact λz=>nomatch z
 |ml l=>obtain⟨f,h1,_⟩:=q;rw[h1];exact λz=>nomatch z
 |dt b=>obtain⟨f,h1,_⟩:=q;rw[h1];exact λz=>nomatch z
 |df b=>obtain⟨o,f,h1,_⟩:=q;rw[h1];exact λz=>nomatch z
 |dk b=>obtain⟨f,h1,_⟩:=q;rw[h1];exact λz=>nomatch z
theorem RlO.all{a:Addr}(r:RlO K mg O H F as)(c:a∈as):H a≠none:=by
 obtain⟨n,b,e⟩:=List.mem_iff_getElem.mp c
 have f:n<O.length:=by rw[<-r.len];exact b
 exact r.at (n:=n) (by rw[zv b,e]) (zv f)
theorem RlO.lay{p:Addr}{o:HO}(r:RlO K mg O H F as)(c:H p=none):RlO K mg O (upd H p o) F as:=by
 refine⟨λa u e=>?_,r.fd,r.nd,r.len,r.fa,λn a u f b=>(r.ob n a u f b).keep (aO ?_) (Same.refl F) λ_ _ h=>h⟩
 ·have q:=r.fh a u e;rw[aO (cN q c)];exact q
 ·intro z;subst z;exact r.at f b c
theorem Gr.frz{p:Addr}{o:HO}(f:H p=none)(g:Gr H F as H' F' as')(i:F' p=none):Gr H F as H' (upd F' p o) as' :=
 ⟨λa c b h hd=>by rw[aO (λz=>by subst z;rw[f] at b;cases b)];exact g.fz a c b h hd,λa u e=>by
  have q:=g.ff a u e
  rw[aO (cN q i)];exact q,g.nw,g.fr,g.dm,g.kz⟩
theorem RlO.frz{p:Addr}{o:HO}(r:RlO K mg O H F as)(b:H p=some o)(c:F p=none)(f:p∉as)(hd:isD o=true):RlO K mg O H (upd F p o) as:=by
 have ff:Same F (upd F p o):=λa u e=>by rw[aO (cN e c)];exact e
 refine⟨λa u e=>?_,λa u e=>?_,r.nd,r.len,λa h=>?_,λn a u h1 h2=>(r.ob n a u h1 h2).keep rfl ff λ_ _ h=>h⟩
 ·by_cases h:a=p
  ·subst h;rw[bN] at e;cases e;exact b
  ·rw[aO h] at e;exact r.fh a u e
 ·by_cases h:a=p
  ·subst h;rw[bN] at e;cases e;exact hd
  ·rw[aO h] at e;exact r.fd a u e
 ·rw[aO (λz=>by subst z;exact f h)];exact r.fa a h
end
abbrev RR:=(Addr->Prop)->Hp->Hp->List Addr->V->D->Prop
def rV(K:Frag):RR:=λ_ _ F a v d=>Rp K F a v d
def rS(K:Frag):RR:=λ_ H F a v d=>Sv K H F a v d
def rO(K:Frag):RR:=λN H F a v d=>Ow K N H F a v d
def rA(K:Frag):Md->RR
 | .v=>rV K
 | _=>rS K
def fZ(R:RR):Prop:=∀(N c:Addr->Prop) (H F:Hp) (b:List Addr) (v:V) (d:D),(∀a,N a->c a)->R N H F b v d->R c H F b v d
theorem b8{K:Frag}:fZ (rV K):=λ_ _ _ _ _ _ _ _ h=>h
theorem dD{K:Frag}:fZ (rO K):=λN u H F r v d c h=>by
 rcases h with h | ⟨a,b,q,n,m,l,j,i,g,f⟩
 ·exact .inl h
 ·exact .inr ⟨a,b,q,n,m,l,j,i,c a g,f⟩
def tM(K:Frag)(mg:Str->Option Value)(md:List Md)(P:Pt)(R:RR)(m:M D):TE:=λσ H Q =>
 ∃ρ O F f d h,RlO K mg O H F f/\SlO K md P ρ σ H F f/\m ρ O=.ok d h /\
  ∀v c g b,Gr H F f c g b->RlO K mg h c g b->R (λa=>H a=none) c g b v d->Q v c
def tMT(K:Frag)(mg:Str->Option Value)(md:List Md)(P:Pt)(m:M Bool):TT:=λσ H Q =>
 ∃ρ O F c b f,RlO K mg O H F c/\SlO K md P ρ σ H F c/\m ρ O=.ok b f /\
  ∀d g a,Gr H F c d g a->RlO K mg f d g a->Q b d
def cY(K:Frag)(H F:Hp)(as:List Addr):List Md->List V->List D->Prop
 | [],[],[]=>True
 |m::ms,v::vs,d::ds=>rA K m (λ_=>True) H F as v d/\cY K H F as ms vs ds
 | _,_,_=>False
def tMA(K:Frag)(mg:Str->Option Value)(md:List Md)(P:Pt)(ms:List Md)(m:M (List D)):TA:=λσ H Q =>
 ∃ρ O F c g h,RlO K mg O H F c/\SlO K md P ρ σ H F c/\m ρ O=.ok g h /\
  ∀f b d a,Gr H F c b d a->RlO K mg h b d a->cY K b d a ms f g->Q f b
def XE(X:Cx)(md:List Md)(P:Pt)(R:RR)(e:Expr)(m:M D):Prop:=PE X e (tM X.K X.mg md P R m)
def VE(X:Cx)(md:List Md)(P:Pt)(e:Expr)(m:M D):Prop:=PE X e (tM X.K X.mg md P (rV X.K) m)
def SE(X:Cx)(md:List Md)(P:Pt)(e:Expr)(m:M D):Prop:=PE X e (tM X.K X.mg md P (rS X.K) m)
def OE(X:Cx)(md:List Md)(P:Pt)(e:Expr)(m:M D):Prop:=PE X e (tM X.K X.mg md P (rO X.K) m)
def TsE(X:Cx)(md:List Md)(P:Pt)(e:Expr)(m:M Bool):Prop:=PT X e (tMT X.K X.mg md P m)
def TwE(X:Cx)(md:List Md)(P:Pt)(e:Expr)(m:M Bool):Prop:=PW X e (tMT X.K X.mg md P m)
def AE(X:Cx)(md:List Md)(P:Pt)(ms:List Md)(es:List Expr)(m:M (List D)):Prop:=PA X es (tMA X.K X.mg md P ms m)
def g8(K:Frag)(mg:Str->Option Value)(md:List Md)(P:Pt)(R:RR)(D:Ends)(H F:Hp)(as:List Addr):Fl->Prop
 | .nx ρ' O'=>∀f c g b,GrS P H F as c g b->RlO K mg O' c g b->SlO K md P ρ' f c g b->D.nx f c
 | .bk ρ' O'=>∀f c g b,GrS P H F as c g b->RlO K mg O' c g b->SlO K md P ρ' f c g b->D.bk f c
 | .ct ρ' O'=>∀f c g b,GrS P H F as c g b->RlO K mg O' c g b->SlO K md P ρ' f c g b->D.ct f c
 | .rt d O'=>∀v c g b,GrS P H F as c g b->RlO K mg O' c g b->R (λa=>¬P a) c g b v d->D.rt v c
 | .ex _ _=>False
 | .no=>False
def tMS(K:Frag)(mg:Str->Option Value)(md:List Md)(P:Pt)(R:RR)(m:MS):TS:=λD σ H =>
 ∃ρ O F a,RlO K mg O H F a/\SlO K md P ρ σ H F a/\g8 K mg md P R D H F a (m ρ O)
def VS(X:Cx)(md:List Md)(P:Pt)(R:RR)(st:Stmt)(m:MS):Prop:=PS X st (tMS X.K X.mg md P R m)
def VSs(X:Cx)(md:List Md)(P:Pt)(R:RR)(st:List Stmt)(m:MS):Prop:=PSs X st (tMS X.K X.mg md P R m)
section
variable {X:Cx}{md:List Md}{P:Pt}{R:RR}
theorem PE.imp{e:Expr}{t t':TE}(h:PE X e t)(k:∀σ H Q,t' σ H Q->t σ H Q):PE X e t':=λpins s σ H Q I q=>h pins s σ H Q I (k σ H Q q)
theorem PT.imp{e:Expr}{t t':TT}(h:PT X e t)(k:∀σ H Q,t' σ H Q->t σ H Q):PT X e t':=λpins s σ H Q I q=>h pins s σ H Q I (k σ H Q q)
theorem PW.imp{e:Expr}{t t':TT}(h:PW X e t)(k:∀σ H Q,t' σ H Q->t σ H Q):PW X e t':=λw pins s σ H Q I q=>h w pins s σ H Q I (k σ H Q q)
theorem PA.imp{e:List Expr}{t t':TA}(h:PA X e t)(k:∀σ H Q,t' σ H Q->t σ H Q):PA X e t':=λa pins s σ H Q I q=>h a pins s σ H Q I (k σ H Q q)
theorem PS.imp{e:Stmt}{t t':TS}(h:PS X e t)(k:∀D σ H,t' D σ H->t D σ H):PS X e t':=λpins s σ H D I q=>h pins s σ H D I (k D σ H q)
theorem PSs.imp{e:List Stmt}{t t':TS}(h:PSs X e t)(k:∀D σ H,t' D σ H->t D σ H):PSs X e t':=λpins s σ H D I q=>h pins s σ H D I (k D σ H q)
def aa(i:Nat):M D:=λρ O=>match ρ[i]? with
 |some (some d)=>.ok d O
 | _=>.no
def mC(d:D):M D:=λ_ O=>.ok d O
def mG(m:M D):M D:=λρ O=>match m ρ O with
 | .ok d O'=>if jD d=true then .ok d O' else .no
 |r=>r
theorem vG{i:Nat}{ρ:az}{O a:ak}{d:D}(h:aa i ρ O=.ok d a):ρ[i]?=some (some d)/\a=O:=by
 unfold aa at h;split at h
 ·rename_i b e;cases h;exact⟨e,rfl⟩
 ·cases h
theorem Xb{m:M D}{ρ:az}{O b:ak}{d:D}(h:mG m ρ O=.ok d b):m ρ O=.ok d b/\jD d=true:=by
 unfold mG at h;split at h
 ·rename_i f g e;split at h
  ·rename_i c;cases h;exact⟨e,c⟩
  ·cases h
 ·rename_i a;exact absurd h (a _ _)
theorem SlO.get{K:Frag}{ρ:az}{σ:St}{H F:Hp}{as:List Addr}{i:Nat}{d:D}(s:SlO K md P ρ σ H F as)(h:ρ[i]?=some (some d)):∃m v,md[i]?=some m/\σ[i]?=some (some v)/\fY P K H F as m v d:=by
 have hi:i<md.length:=by rw[<-s.len'];exact(zl.mp h).1
 obtain⟨v,h1,h2⟩:=s.sl i md[i] d (zv hi) h;exact⟨_,v,zv hi,h1,h2⟩
theorem fY.sv{K:Frag}{H F:Hp}{as:List Addr}{m:Md}{v:V}{d:D}(h:fY P K H F as m v d):Sv K H F as v d:=by
 cases m with
 |v=>exact .inl h
 |s =>
  rcases h with h | ⟨a,b,l,j,i,g,f,n,c⟩
  ·exact .inl h
  ·exact .inr ⟨a,b,l,j,i,g,f,c⟩
 |o =>
  rcases h with⟨_,h⟩ | ⟨a,b,l,j,i,g,q,f,n,c⟩
  ·exact .inl h
  ·exact .inr ⟨a,b,l,j,i,g,f,c⟩
theorem aB(i:Nat){x:Str}{a:Pos}(hN:X.N[i]?=some x:=by rfl)(c:Vis X.env.scope x:=by first | exact Or.inl rfl | exact Or.inr (Or.inl rfl) | exact Or.inr (Or.inr rfl))
  (hd:(x == ("__debug__":Str))=false:=by decide) (b:(x == ("__classdict__":Str))=false:=by decide):SE X md P (.Name x a) (aa i):=by
 refine(lL (i:=i) hN c hd b).imp λσ H Q h=>?_
 obtain⟨ρ,O,F,g,d,j,r,s,e,k⟩:=h;obtain⟨f,rfl⟩:=vG e;obtain⟨m,v,h1,h2,h3⟩:=s.get f;exact⟨v,h2,k v H F g Gr.refl r h3.sv⟩
theorem aA(i:Nat){x:Str}{a:Pos}(f:md[i]?=some .v:=by rfl)(hN:X.N[i]?=some x:=by rfl)(c:Vis X.env.scope x:=by first | exact Or.inl rfl | exact Or.inr (Or.inl rfl) | exact Or.inr (Or.inr rfl))
  (hd:(x == ("__debug__":Str))=false:=by decide) (b:(x == ("__classdict__":Str))=false:=by decide):VE X md P (.Name x a) (aa i):=by
 refine(lL (i:=i) hN c hd b).imp λσ H Q h=>?_
 obtain⟨ρ,O,F,j,d,l,r,s,e,k⟩:=h;obtain⟨g,rfl⟩:=vG e;obtain⟨v,h2,h3⟩:=s.sl i .v d f g;exact⟨v,h2,k v H F j Gr.refl r h3⟩
theorem au{e:Expr}{m:M D}(h:VE X md P e m):SE X md P e m:=h.imp λσ H Q q=>by
 obtain⟨ρ,O,F,f,d,l,r,s,e,k⟩:=q;exact⟨ρ,_,F,f,_,_,r,s,e,λv i j a g b c=>k v i j a g b (.inl c)⟩
theorem aP{e:Expr}{m:M D}(h:OE X md P e m):SE X md P e m:=h.imp λσ H Q q=>by
 obtain⟨ρ,O,F,f,d,l,r,s,e,k⟩:=q;exact⟨ρ,_,F,f,_,_,r,s,e,λv i j a g b c=>k v i j a g b (Ow.sv c)⟩
theorem dF{e:Expr}{m:M D}(h:SE X md P e m):VE X md P e (mG m):=h.imp λσ H Q q=>by
 obtain⟨ρ,O,F,i,d,n,r,s,e,k⟩:=q;obtain⟨e,f⟩:=Xb e;exact⟨ρ,_,F,i,_,_,r,s,e,λv j l a g b c=>k v j l a g b (Sv.rp c f)⟩
theorem aX{e:Expr}{m:M D}(h:OE X md P e m):VE X md P e m:=h.imp λσ H Q q=>by
 obtain⟨ρ,O,F,G,d,J,r,s,e,k⟩:=q;refine⟨ρ,_,F,G,_,_,r,s,e,λv x f c g n i=>?_⟩
 rcases i with⟨_,i⟩ | ⟨a,l,I,rfl,rfl,E,j,C,B,y⟩
 ·exact k v x f c g n i
 ·have ff:Same f (upd f a (.lst l)):=λb u q=>by rw[aO (cN q j)];exact q
  refine k _ x (upd f a (.lst l)) c (g.frz B j) (n.frz E j C rfl) (Rp.mkL (.inl (.inl bN)) (Rps.mono ff (λ_ _ z=>z) _ y))
theorem sI{e:Expr}{v:V}{d:D}(h:PE X e (tC v))(hd:∀K F as,Rp K F as v d):VE X md P e (mC d):=h.imp λσ H Q q=>by
 obtain⟨ρ,O,F,as,d,a,r,s,e,k⟩:=q;cases e;exact k v H F as Gr.refl r (hd _ _ _)
theorem aK{i:Int}{j pos}:VE X md P (.Constant (.int i) j pos) (mC (.int i)):=sI H9 λ_ _ _=>Rp.int
theorem j5{b:Bool}{j pos}:VE X md P (.Constant (.bool b) j pos) (mC (.bl b)):=sI RK λ_ _ _=>Rp.bl
theorem Ao{j pos}:VE X md P (.Constant .none j pos) (mC .non):=sI RL λ_ _ _=>Rp.non
theorem cU{x:Str}{j pos}(l:List Nat)(a:x=S l:=by decide +kernel):VE X md P (.Constant (.str x) j pos) (mC (.str l)):=sI RM λ_ _ _=>by rw[a];exact Rp.str
theorem nG{x:Str}{v:V}{d:D}{a:Pos}(h:∃u,X.mg x=some u/\RelV v u)(hd:∀K F as,Rp K F as v d)(c:Gl X x:=by rfl)(b:(x == ("__debug__":Str))=false:=by decide):VE X md P (.Name x a) (mC d):=sI (JN h c b) hd
def aq:M (List D):=λ_ O=>.ok [] O
def aj(m:M D)(r:M (List D)):M (List D):=λρ O=>(m ρ O).bind λd c=>(r ρ c).bind λa b=>.ok (d::a) b
theorem aG:AE X md P [] [] aq:=oZ.imp λσ H Q q=>by
 obtain⟨ρ,O,F,a,d,b,r,s,e,k⟩:=q;cases e;exact k [] H F a Gr.refl r trivial
theorem rA.gr{K:Frag}{m:Md}{N:Addr->Prop}{H F b c:Hp}{as a:List Addr}{v:V}{d:D}(h:rA K m N H F as v d)(g:Gr H F as b c a):rA K m (λ_=>True) b c a v d:=by
 cases m with
 |v=>exact Rp.gr (show Rp K F as v d from h) g
 |s=>exact Sv.gr (show Sv K H F as v d from h) g
 |o=>exact Sv.gr (show Sv K H F as v d from h) g
theorem cY.gr{K:Frag}{H F b c:Hp}{as a:List Addr}(g:Gr H F as b c a):∀{ms:List Md}{vs:List V}{ds:List D},cY K H F as ms vs ds->cY K b c a ms vs ds
 | [],[],[],_=>trivial
 |m::ms,v::vs,d::ds,h=>⟨rA.gr h.1 g,cY.gr g h.2⟩
 | [],[],_::_,h=>h.elim
 | [],_::_,[],h=>h.elim
 | [],_::_,_::_,h=>h.elim
 | _::_,[],[],h=>h.elim
 | _::_,[],_::_,h=>h.elim
 | _::_,_::_,[],h=>h.elim
theorem JS(a:Md){e:Expr}{es:List Expr}{m:M D}{ms:List Md}{r:M (List D)}(h:XE X md P (rA X.K a) e m)(z:AE X md P ms es r)
  (y:starEach (e::es) X.env=(false,eval e X.env)::starEach es X.env:=by exact di rfl):AE X md P (a::ms) (e::es) (aj m r):=(nA h z y).imp λσ H Q q=>by
 obtain⟨ρ,O,F,E,d,W,u,s,e,k⟩:=q;obtain⟨d,U,C,e⟩:=Res.bind_ok e;obtain⟨L,T,B,e⟩:=Res.bind_ok e;cases e;refine⟨ρ,_,F,E,_,_,u,s,C,λv Y J f i n x=>?_⟩;refine⟨ρ,_,J,f,_,_,n,s.step i,B,λj G I c g l b=>?_⟩;exact k (v::j) G I c (i.trans g) l ⟨rA.gr x g,b⟩
theorem bh{e:Expr}{es:List Expr}{m:M D}{ms:List Md}{r:M (List D)}(h:VE X md P e m)(b:AE X md P ms es r)
  (a:starEach (e::es) X.env=(false,eval e X.env)::starEach es X.env:=by exact di rfl):AE X md P (.v::ms) (e::es) (aj m r):=JS .v h b a
theorem aC{e:Expr}{es:List Expr}{m:M D}{ms:List Md}{r:M (List D)}(h:SE X md P e m)(b:AE X md P ms es r)
  (a:starEach (e::es) X.env=(false,eval e X.env)::starEach es X.env:=by exact di rfl):AE X md P (.s::ms) (e::es) (aj m r):=JS .s h b a
theorem cY.rps{K:Frag}{H F:Hp}{as:List Addr}:∀{n:Nat}{vs:List V}{ds:List D},cY K H F as (List.replicate n .v) vs ds->Rps K F as vs ds
 | 0,[],[],_=>Rps.nil
 |n+1,v::vs,d::ds,h=>by
  rw[List.replicate_succ] at h;exact Rps.cons h.1 (cY.rps h.2)
 | 0,[],_::_,h=>h.elim
 | 0,_::_,[],h=>h.elim
 | 0,_::_,_::_,h=>h.elim
 |n+1,[],[],h=>h.elim
 |n+1,[],_::_,h=>h.elim
 |n+1,_::_,[],h=>h.elim
def bI(r:M (List D)):M D:=λρ O=>(r ρ O).bind λa b=>if a.length<=1000000 then .ok (.lst a) b else .no
def cG(r:M (List D)):M D:=λρ O=>(r ρ O).bind λa b=>if a.length<=1000000 then .ok (.tup a) b else .no
theorem f9{n:Nat}(h:n<=1000000):n<=sizeLine:=zM h (by decide)
theorem dj{es:List Expr}{f:Pos}{r:M (List D)}(n:Nat)(h:AE X md P (List.replicate n .v) es r):OE X md P (.List es f) (bI r):=(U9 h).imp λσ H Q q=>by
 obtain⟨ρ,O,F,as,d,y,l,s,e,k⟩:=q;obtain⟨ds,x,u,e⟩:=Res.bind_ok e;split at e
 ·rename_i hz;cases e;refine⟨ρ,_,F,as,_,_,l,s,u,λvs B c g j b hv=>?_⟩;have i:=hv.rps;refine⟨by rw[i.length];exact f9 hz,λp a=>?_⟩
  have m:c p=none:=by
   cases q:c p with
   |none=>rfl
   |some o=>rw[b.fh p o q] at a;cases a
  refine k _ _ c g (j.trans (Gr.lay a)) (b.lay a) (.inr ⟨p,vs,ds,rfl,rfl,bN,m,λz=>b.all z a,j.dm p a,i⟩)
 ·cases e
theorem dZ{es:List Expr}{i:Pos}{x1}{r:M (List D)}(n:Nat)(h:AE X md P (List.replicate n .v) es r):VE X md P (.Tuple es x1 i) (cG r):=(U8 h).imp λσ H Q q=>by
 obtain⟨ρ,O,F,as,d,C,x,s,e,k⟩:=q;obtain⟨ds,B,y,e⟩:=Res.bind_ok e;split at e
 ·rename_i hz;cases e;refine⟨ρ,_,F,as,_,_,x,s,y,λvs E c j m f hv=>?_⟩;have l:=hv.rps;refine⟨by rw[l.length];exact f9 hz,λp a=>?_⟩
  have g:c p=none:=by
   cases q:c p with
   |none=>rfl
   |some o=>rw[f.fh p o q] at a;cases a
  have ff:Same c (upd c p (.tup vs)):=λb u q=>by rw[aO (cN q g)];exact q
  refine k _ _ (upd c p (.tup vs)) j ((m.trans (Gr.lay a)).frz (m.dm p a) g) ((f.lay a).frz bN g (λz=>f.all z a) rfl) (Rp.mkT (.inl bN) (Rps.mono ff (λ_ _ z=>z) _ l))
 ·cases e
def rD(K:Frag)(mg:Str->Option Value)(g:D->D->Option D):R2:=λx y H Q=>∃O F b j i d,RlO K mg O H F b/\Lk K H F b x j/\Lk K H F b y i/\g j i=some d /\
 ∀h c f,Gr H F b c f b->RlO K mg O c f b->Ow K (λa=>H a=none) c f b h d->Q h c
abbrev OpD(X:Cx)(f:Value->Value->Sem Value)(g:D->D->Option D):Prop:=OpR X f (rD X.K X.mg g)
def ao(g:D->D->Option D)(c b:M D):M D:=λρ O=>(c ρ O).bind λx f=>(b ρ f).bind λy a=>match g (bG a x) (bG a y) with
 |some d=>.ok d a
 |none=>.no
theorem Aq{K:Frag}{mg:Str->Option Value}{g:D->D->Option D}{m l:M D}{σ:St}{H:Hp}{Q:VK}(h:tM K mg md P (rO K) (ao g m l) σ H Q):tOp (rD K mg g) (tM K mg md P (rS K) m) (tM K mg md P (rS K) l) σ H Q:=by
 obtain⟨ρ,O,F,T,d,O',r,sl,e,k⟩:=h;obtain⟨x,O1,L,e⟩:=Res.bind_ok e;obtain⟨y,O2,J,e⟩:=Res.bind_ok e;split at e
 ·rename_i d' E;cases e;refine⟨ρ,_,F,T,_,_,r,sl,L,λv H1 Y j i q B=>?_⟩;refine⟨ρ,_,Y,j,_,_,q,sl.step i,J,λu H2 W b f c C=>?_⟩;refine⟨_,W,b,_,_,_,c,Sv.lk (Sv.gr B f) c,Sv.lk C c,E,λn U Z I z hw=>?_⟩;exact k n U Z b ((i.trans f).trans I) z (dD _ _ _ _ _ _ _ (λa G=>(i.trans f).dm a G) hw)
 ·cases e
theorem aW{h f:Expr}{a:Pos}{b:Operator}{g:D->D->Option D}{d c:M D}(i:OpD X (binaryOp b) g)(j:SE X md P h d)(hb:SE X md P f c):OE X md P (.BinOp h b f a) (ao g d c):=
 (TY i j hb).imp λ_ _ _=>Aq
theorem j6{h b:Expr}{c:Pos}{a:CmpOp}{g:D->D->Option D}{f d:M D}(i:OpD X (compareOp a) g)(l:SE X md P h f)(hb:SE X md P b d)(j:behindInMarks a b=false):OE X md P (.Compare h [a] [b] c) (ao g f d):=
 (Uj i l hb j).imp λ_ _ _=>Aq
def aJ(m:M D):M Bool:=λρ O=>(m ρ O).bind λd a=>match d with
 | .bl b=>.ok b a
 | _=>.no
theorem pA{K:Frag}{mg:Str->Option Value}{m:M D}{σ:St}{H:Hp}{Q:Bool->Hp->Prop}(h:tMT K mg md P (aJ m) σ H Q):vh (tM K mg md P (rO K) m) σ H Q:=by
 obtain⟨ρ,O,F,n,d,B,r,sl,e,k⟩:=h;obtain⟨d,z,l,e⟩:=Res.bind_ok e
 cases d with
 |bl c =>
  cases e;refine⟨ρ,_,F,n,_,_,r,sl,l,λv q u f i g b=>?_⟩
  rcases b with⟨_,b⟩ | ⟨a,x,y,_,j,_⟩
  ·exact⟨_,b.unB,k q u f i g⟩
  ·cases j
 | _=>cases e
theorem bV{i b:Expr}{c:Pos}{a:CmpOp}{g:D->D->Option D}{f d:M D}(j:OpD X (compareOp a) g)(m:SE X md P i f)(hb:SE X md P b d)(l:behindInMarks a b=false):TsE X md P (.Compare i [a] [b] c) (aJ (ao g f d)):=
 (Iv j m hb l).imp λσ H Q h=>by
  have q:=pA h;exact Aq q
def j7(g g':D->D->Option D)(h f c:M D):M D:=λρ O=>(h ρ O).bind λx i=>(f ρ i).bind λy a=>match g (bG a x) (bG a y) with
 |some (.bl true)=>(c ρ a).bind λz b=>match g' (bG b y) (bG b z) with
  |some d=>.ok d b
  |none=>.no
 |some (.bl false)=>.ok (.bl false) a
 | _=>.no
theorem JT{K:Frag}{mg:Str->Option Value}{g g':D->D->Option D}{U T L:M D}{σ:St}{H:Hp}{Q:VK}(h:tM K mg md P (rO K) (j7 g g' U T L) σ H Q):
  yZ (rD K mg g) (rD K mg g') (tM K mg md P (rS K) U) (tM K mg md P (rS K) T) (tM K mg md P (rS K) L) σ H Q:=by
 obtain⟨ρ,O,F,as,d,O',r,sl,e,k⟩:=h;obtain⟨x,O1,e1,e⟩:=Res.bind_ok e;obtain⟨y,O2,e2,e⟩:=Res.bind_ok e;refine⟨ρ,_,F,as,_,_,r,sl,e1,λv H1 F1 J C r1 W=>?_⟩;refine⟨ρ,_,F1,J,_,_,r1,sl.step C,e2,λu H2 Z b i c m=>?_⟩;split at e
 ·rename_i n;obtain⟨z,O3,e3,e⟩:=Res.bind_ok e;refine⟨_,Z,b,_,_,_,c,Sv.lk (Sv.gr W i) c,Sv.lk m c,n,λv' Y E g' l hw=>?_⟩
  rcases hw with⟨_,hw⟩ | ⟨a,xs,ds,_,z,_⟩
  ·refine⟨true,hw.unB,?_⟩;rw[if_pos rfl];split at e
   ·rename_i d' I;cases e;have B:=(C.trans i).trans g';refine⟨ρ,_,E,b,_,_,l,sl.step B,e3,λw H4 F4 f q j hz=>?_⟩;refine⟨_,F4,f,_,_,_,j,Sv.lk (Sv.gr (Sv.gr m g') q) j,Sv.lk hz j,I,λv5 H5 F5 g5 r5 G=>?_⟩;exact k v5 H5 F5 f ((B.trans q).trans g5) r5 (dD _ _ _ _ _ _ _ (λa ha=>(B.trans q).dm a ha) G)
   ·cases e
  ·cases z
 ·rename_i n;cases e;refine⟨_,Z,b,_,_,_,c,Sv.lk (Sv.gr W i) c,Sv.lk m c,n,λv' Y E g' l hw=>?_⟩
  rcases hw with⟨_,hw⟩ | ⟨a,xs,ds,_,z,_⟩
  ·refine⟨false,hw.unB,?_⟩;rw[if_neg zh];exact k _ Y E b ((C.trans i).trans g') l (.inl ⟨rfl,Rp.bl⟩)
  ·cases z
 ·cases e
theorem JV{a b c:Expr}{h:Pos}{f d:CmpOp}{g g':D->D->Option D}{m l j:M D}(n:OpD X (compareOp f) g)(i:OpD X (compareOp d) g')(u:SE X md P a m)(hb:SE X md P b l)(r:SE X md P c j)
  (q:lastMarks [f,d] [b,c]=false:=by with_unfolding_all rfl):OE X md P (.Compare a [f,d] [b,c] h) (j7 g g' m l j):=(Uk n i u hb r q).imp λ_ _ _=>JT
theorem Xd{a b c:Expr}{i:Pos}{f d:CmpOp}{g g':D->D->Option D}{n m l:M D}(q:OpD X (compareOp f) g)(j:OpD X (compareOp d) g')(x:SE X md P a n)(hb:SE X md P b m)(u:SE X md P c l)
  (r:lastMarks [f,d] [b,c]=false:=by with_unfolding_all rfl):TsE X md P (.Compare a [f,d] [b,c] i) (aJ (j7 g g' n m l)):=(Ul q j x hb u r).imp λ_ _ _ h=>JT (pA h)
def isNon:D->Bool
 | .non=>true
 | _=>false
def jF(m:M D):M D:=λρ O=>(m ρ O).bind λd a=>.ok (.bl (isNon d)) a
def iJ(m:M D):M D:=λρ O=>(m ρ O).bind λd a=>.ok (.bl (!isNon d)) a
theorem Sv.isN{K:Frag}{H F:Hp}{as:List Addr}{v:V}{d:D}(h:Sv K H F as v d):decide (v=.non)=isNon d:=by
 rcases h with h | ⟨a,c,f,rfl,rfl,_⟩
 ·cases d with
  |non=>rw[h.unN];rfl
  |bl b=>rw[h.unB];rfl
  |int b=>rw[h.unI];rfl
  |str b=>rw[h.unS];rfl
  |lst b=>obtain⟨a,c,rfl,_⟩:=h.unL;rfl
  |tup b=>obtain⟨a,c,rfl,_⟩:=h.unT;rfl
  |dic k b=>obtain⟨a,c,rfl,_⟩:=h.unD;rfl
  |ob b=>obtain⟨a,rfl,_⟩:=h.unO;rfl
 ·rfl
theorem Xe{K:Frag}{mg:Str->Option Value}{m:M D}{σ:St}{H:Hp}{Q:VK}(h:tM K mg md P (rO K) (jF m) σ H Q):Ia (tM K mg md P (rS K) m) σ H Q:=by
 obtain⟨ρ,O,F,i,d,q,r,sl,e,k⟩:=h;obtain⟨x,n,g,e⟩:=Res.bind_ok e;cases e;refine⟨ρ,_,F,i,_,_,r,sl,g,λv j l a f b c=>?_⟩;dsimp only;rw[Sv.isN c];exact k _ j l a f b (.inl ⟨rfl,Rp.bl⟩)
theorem Xf{K:Frag}{mg:Str->Option Value}{m:M D}{σ:St}{H:Hp}{Q:VK}(h:tM K mg md P (rO K) (iJ m) σ H Q):Ib (tM K mg md P (rS K) m) σ H Q:=by
 obtain⟨ρ,O,F,i,d,q,r,sl,e,k⟩:=h;obtain⟨x,n,g,e⟩:=Res.bind_ok e;cases e;refine⟨ρ,_,F,i,_,_,r,sl,g,λv j l a f b c=>?_⟩;dsimp only;rw[Sv.isN c];exact k _ j l a f b (.inl ⟨rfl,Rp.bl⟩)
theorem JW{t t':TE}{σ:St}{H:Hp}{Q:Bool->Hp->Prop}(h:∀a,t σ H a->t' σ H a)(q:vh t σ H Q):tB t' σ H Q:=h _ q
theorem Ar{a:Expr}{b pos':Pos}{j}{m:M D}(h:SE X md P a m):TsE X md P (.Compare a [.Is] [.Constant .none j pos'] b) (aJ (jF m)):=(yP (RT h)).imp λ_ _ _ q=>JW (λ_=>Xe) (pA q)
theorem JX{a:Expr}{b pos':Pos}{j}{m:M D}(h:SE X md P a m):TsE X md P (.Compare a [.IsNot] [.Constant .none j pos'] b) (aJ (iJ m)):=(yP (RV h)).imp λ_ _ _ q=>JW (λ_=>Xf) (pA q)
def pB:D->Option Bool
 | .non=>some false
 | .bl b=>some b
 | .int i=>some (i != 0)
 | .str l=>if l.length<=1000000 then some (!l.isEmpty) else none
 | .lst ds=>some (!ds.isEmpty)
 | .tup ds=>some (!ds.isEmpty)
 | .dic ks _=>some (!ks.isEmpty)
 | .ob _=>none
def cz(m:M D):M Bool:=λρ O=>(m ρ O).bind λd a=>match pB (bG a d) with
 |some b=>.ok b a
 |none=>.no
theorem JZ{α β:Type}{xs:List α}{ys:List β}(h:xs.length=ys.length):(!xs.isEmpty) = !ys.isEmpty:=by
 cases xs<;>cases ys<;>simp_all
theorem Lk.tru{K:Frag}{H F:Hp}{as:List Addr}{v:V}{d:D}{b:Bool}(h:Lk K H F as v d)(fh:Same F H)(e:pB d=some b):z7 K v H b:=by
 cases d with
 |non=>rw[(h.rp rfl).unN];cases e;rfl
 |bl b=>rw[(h.rp rfl).unB];cases e;rfl
 |int b=>rw[(h.rp rfl).unI];cases e;rfl
 |str l =>
  rw[(h.rp rfl).unS];simp only[pB] at e;split at e
  ·rename_i i;cases e;refine⟨by rw[fM];exact f9 i,?_⟩;rw[fM]
   cases l with
   |nil=>rfl
   |cons c l =>
    have:((((c::l).length:Nat):Int) != 0)=true:=by
     rw[bne_iff_ne,zw];omega
    rw[this];rfl
  ·cases e
 |lst ds =>
  obtain⟨a,g,rfl,h1,h2⟩:=h.list fh;cases e;exact .inl ⟨g,h1.sq,(JZ h2.length).symm⟩
 |tup ds =>
  obtain⟨a,g,rfl,h1,h2⟩:=(h.rp rfl).unT;cases e;exact .inr (.inl ⟨g,Same.seqT fh h1,(JZ h2.length).symm⟩)
 |dic ks vs =>
  obtain⟨a,f,rfl,h1,rfl,h2⟩:=(h.rp rfl).unD;cases e;exact .inr (.inr ⟨f,fh _ _ h1,by cases f<;>rfl⟩)
 |ob n=>cases e
theorem ig{a:Expr}{m:M D}(h:SE X md P a m)(i:∀whole,isTrue a X.env whole=(do let v <-whole;standAt a.pos;holding [v] (truthy v)):=by intro _;rfl):TsE X md P a (cz m):=(Up h i).imp λσ H Q q=>by
 obtain⟨ρ,O,F,u,d,B,r,sl,e,k⟩:=q;obtain⟨d,z,n,e⟩:=Res.bind_ok e;split at e
 ·rename_i c j;cases e;exact⟨ρ,_,F,u,_,_,r,sl,n,λv x y f l b g=>⟨_,Lk.tru (Sv.lk g b) b.fh j,k x y f l b⟩⟩
 ·cases e
def eV(a b:M Bool):M Bool:=λρ O=>(a ρ O).bind λc d=>if c=true then b ρ d else .ok false d
def dJ(a b:M Bool):M Bool:=λρ O=>(a ρ O).bind λc d=>if c=true then .ok true d else b ρ d
def dM(a:M Bool):M Bool:=λρ O=>(a ρ O).bind λc b=>.ok (!c) b
theorem Xg{K:Frag}{mg:Str->Option Value}{j i:M Bool}{σ:St}{H:Hp}{Q:Bool->Hp->Prop}(h:tMT K mg md P (eV j i) σ H Q):Ie (tMT K mg md P j) (tMT K mg md P i) σ H Q:=by
 obtain⟨ρ,O,F,u,d,C,r,sl,e,k⟩:=h;obtain⟨c,B,q,e⟩:=Res.bind_ok e;refine⟨ρ,_,F,u,_,_,r,sl,q,λy l a b g=>?_⟩
 cases c with
 |true =>
  rw[if_pos rfl] at e ⊢;exact⟨ρ,_,l,a,_,_,g,sl.step b,e,λx z f n m=>k x z f (b.trans n) m⟩
 |false =>
  rw[if_neg zh] at e ⊢;cases e;exact k y l a b g
theorem Xh{K:Frag}{mg:Str->Option Value}{j i:M Bool}{σ:St}{H:Hp}{Q:Bool->Hp->Prop}(h:tMT K mg md P (dJ j i) σ H Q):tOr (tMT K mg md P j) (tMT K mg md P i) σ H Q:=by
 obtain⟨ρ,O,F,u,d,C,r,sl,e,k⟩:=h;obtain⟨c,B,q,e⟩:=Res.bind_ok e;refine⟨ρ,_,F,u,_,_,r,sl,q,λy l a b g=>?_⟩
 cases c with
 |true =>
  rw[if_pos rfl] at e ⊢;cases e;exact k y l a b g
 |false =>
  rw[if_neg zh] at e ⊢;exact⟨ρ,_,l,a,_,_,g,sl.step b,e,λx z f n m=>k x z f (b.trans n) m⟩
theorem sJ{a:Expr}{b:Pos}{m:M Bool}(h:TsE X md P a m):TwE X md P (.BoolOp .And [a] b) m:=RX h
theorem sO{a:Expr}{b:Pos}{m:M Bool}(h:TsE X md P a m):TwE X md P (.BoolOp .Or [a] b) m:=RZ h
theorem sS{a b:Expr}{rest:List Expr}{c:Pos}{f d:M Bool}(g:TsE X md P a f)(hb:TwE X md P (.BoolOp .And (b::rest) c) d):TwE X md P (.BoolOp .And (a::b::rest) c) (eV f d):=(R0 g hb).imp λ_ _ _=>Xg
theorem pC{a b:Expr}{rest:List Expr}{c:Pos}{f d:M Bool}(g:TsE X md P a f)(hb:TwE X md P (.BoolOp .Or (b::rest) c) d):TwE X md P (.BoolOp .Or (a::b::rest) c) (dJ f d):=(R1 g hb).imp λ_ _ _=>Xh
theorem jG{e:Expr}{m:M Bool}(h:TwE X md P e m):TsE X md P e m:=PW.pt h
theorem nH{a:Expr}{b:Pos}{m:M Bool}(h:TsE X md P a m):TsE X md P (.UnaryOp .Not a b) (dM m):=(R3 h).imp λσ H Q q=>by
 obtain⟨ρ,O,F,g,d,j,r,sl,e,k⟩:=q;obtain⟨c,i,f,e⟩:=Res.bind_ok e;cases e;exact⟨ρ,_,F,g,_,_,r,sl,f,k⟩
def ik(c b:M D):M D:=λρ O=>(c ρ O).bind λd a=>match d with
 | .bl true=>b ρ a
 | .bl false=>.ok (.bl false) a
 | _=>.no
def nJ(c b:M D):M D:=λρ O=>(c ρ O).bind λd a=>match d with
 | .bl true=>.ok (.bl true) a
 | .bl false=>b ρ a
 | _=>.no
def Av(a:M D):M D:=λρ O=>(a ρ O).bind λd c=>match d with
 | .bl b=>.ok (.bl (!b)) c
 | _=>.no
theorem nM{a:Expr}{b:Pos}{op}{m:M D}(h:VE X md P a m):VE X md P (.BoolOp op [a] b) m:=R7 h
theorem pD{a b:Expr}{rest:List Expr}{f:Pos}{n m:M D}(C:VE X md P a n)(hb:VE X md P (.BoolOp .And (b::rest) f) m):VE X md P (.BoolOp .And (a::b::rest) f) (ik n m):=(R8 C hb).imp λσ H Q q=>by
 obtain⟨ρ,O,F,I,d,W,r,sl,e,k⟩:=q;obtain⟨x,U,G,e⟩:=Res.bind_ok e;refine⟨ρ,_,F,I,_,_,r,sl,G,λv L u g h l B=>?_⟩
 cases x with
 |bl c =>
  refine⟨c,Rp.unB B,?_⟩
  cases c with
  |true =>
   rw[if_pos rfl];exact⟨ρ,_,u,g,_,_,l,sl.step h,e,λy J T j E z i=>k y J T j (h.trans E) z i⟩
  |false =>
   rw[if_neg zh];cases e;exact k _ L u g h l Rp.bl
 | _=>cases e
theorem Xi{a b:Expr}{rest:List Expr}{f:Pos}{n m:M D}(C:VE X md P a n)(hb:VE X md P (.BoolOp .Or (b::rest) f) m):VE X md P (.BoolOp .Or (a::b::rest) f) (nJ n m):=(R9 C hb).imp λσ H Q q=>by
 obtain⟨ρ,O,F,I,d,W,r,sl,e,k⟩:=q;obtain⟨x,U,G,e⟩:=Res.bind_ok e;refine⟨ρ,_,F,I,_,_,r,sl,G,λv L u g h l B=>?_⟩
 cases x with
 |bl c =>
  refine⟨c,Rp.unB B,?_⟩
  cases c with
  |true =>
   rw[if_pos rfl];cases e;exact k _ L u g h l Rp.bl
  |false =>
   rw[if_neg zh];exact⟨ρ,_,u,g,_,_,l,sl.step h,e,λy J T j E z i=>k y J T j (h.trans E) z i⟩
 | _=>cases e
theorem Xj{a:Expr}{b:Pos}{m:M D}(h:VE X md P a m):VE X md P (.UnaryOp .Not a b) (Av m):=(Sd h).imp λσ H Q q=>by
 obtain⟨ρ,O,F,n,d,B,r,sl,e,k⟩:=q;obtain⟨x,z,l,e⟩:=Res.bind_ok e;refine⟨ρ,_,F,n,_,_,r,sl,l,λv u y f j g i=>?_⟩
 cases x with
 |bl c =>
  cases e;exact⟨c,Rp.unB i,k _ u y f j g Rp.bl⟩
 | _=>cases e
def mIf(t:M Bool)(a b:M D):M D:=λρ O=>(t ρ O).bind λc d=>if c=true then a ρ d else b ρ d
theorem Xk(I:fZ R){c a b:Expr}{z:Pos}{C:M Bool}{G E:M D}(L:TsE X md P c C)(i:PE X a (tM X.K X.mg md P R G))(hb:PE X b (tM X.K X.mg md P R E)):PE X (.IfExp c a b z) (tM X.K X.mg md P R (mIf C G E)):=(Sg L i hb).imp λσ H Q q=>by
 obtain⟨ρ,O,F,U,d,Y,r,sl,e,k⟩:=q;obtain⟨x,W,T,e⟩:=Res.bind_ok e;refine⟨ρ,_,F,U,_,_,r,sl,T,λZ J j h B=>?_⟩
 cases x with
 |true =>
  rw[if_pos rfl] at e ⊢;exact⟨ρ,_,J,j,_,_,B,sl.step h,e,λl u y g n m f=>k l u y g (h.trans n) m (I _ _ _ _ _ _ _ (λa i=>h.dm a i) f)⟩
 |false =>
  rw[if_neg zh] at e ⊢;exact⟨ρ,_,J,j,_,_,B,sl.step h,e,λl u y g n m f=>k l u y g (h.trans n) m (I _ _ _ _ _ _ _ (λa i=>h.dm a i) f)⟩
theorem vH{c a b:Expr}{d:Pos}{f:M Bool}{h g:M D}(i:TsE X md P c f)(j:VE X md P a h)(hb:VE X md P b g):VE X md P (.IfExp c a b d) (mIf f h g):=Xk b8 i j hb
end
section
variable {K:Frag}{mg:Str->Option Value}{md:List Md}{P:Pt}{R:RR}{ρ:az}{σ:St}{H F H' F':Hp}{as as':List Addr}{O O':ak}
theorem SlO.set{i:Nat}{m:Md}{v:V}{d:D}(s:SlO K md P ρ σ H F as)(l:md[i]?=some m)(y:m≠.s)(hv:fY P K H F as m v d)
  (B:∀(a:Addr) (ds:List D) (j:Nat) (es:List D),m=.o->v=.ref a->d=.lst ds->i≠j->md[j]?=some .o->ρ[j]?=some (some (.lst es))->σ[j]?≠some (some (.ref a))):SlO K md P (ρ.set i (some d)) (σ.set i (some v)) H F as:=by
 have hi:i<md.length:=(zl.mp l).1;refine⟨by rw[zX];exact s.len,by rw[zX];exact s.len',s.pd,λj G J u q=>?_,λj k a ds es h1 h2 h3 h4 g f=>?_,λx I=>?_⟩
 ·by_cases h:i=j
  ·subst h;rw[l] at u;cases u;rw[zN (by rw[s.len'];exact hi)] at q;cases q;exact⟨v,zN (by rw[s.len];exact hi),hv⟩
  ·rw[zm h] at q;rw[zm h];exact s.sl j G J u q
 ·by_cases c:i=j
  ·by_cases b:i=k
   ·rw[<-c,<-b]
   ·exfalso
    subst c;rw[l] at h1;cases h1;rw[zN (by rw[s.len'];exact hi)] at h3;rw[zN (by rw[s.len];exact hi)] at g;rw[zm b] at h4 f;cases h3;cases g;exact B a ds k es rfl rfl rfl b h2 h4 f
  ·by_cases b:i=k
   ·exfalso
    subst b;rw[l] at h2;cases h2;rw[zN (by rw[s.len'];exact hi)] at h4;rw[zN (by rw[s.len];exact hi)] at f;rw[zm c] at h3 g;cases h4;cases f;exact B a es j ds rfl rfl rfl c h1 h3 g
   ·rw[zm c] at h3 g;rw[zm b] at h4 f;exact s.inj j k a ds es h1 h2 h3 h4 g f
 ·obtain⟨r,E,C⟩:=s.pin x I
  have n:i≠x.1:=λz=>by
   rw[<-z,l] at r;exact y (zB r)
  exact⟨r,by rw[zm n];exact E,by rw[zm n];exact C⟩
theorem SlO.setV{i:Nat}{v:V}{d:D}(s:SlO K md P ρ σ H F as)(a:md[i]?=some .v)(hv:Rp K F as v d):SlO K md P (ρ.set i (some d)) (σ.set i (some v)) H F as :=
 s.set a (by decide) hv λ_ _ _ _ z=>nomatch z
theorem SlO.setN{i:Nat}{v:V}{d:D}(s:SlO K md P ρ σ H F as)(b:md[i]?=some .o)(a:jD d=true)(hv:Rp K F as v d):SlO K md P (ρ.set i (some d)) (σ.set i (some v)) H F as :=
 s.set b (by decide) (.inl ⟨a,hv⟩) λ_ _ _ _ _ _ z=>by subst z;cases a
theorem SlO.setO{i:Nat}{v:V}{d:D}{c:Hp}(s:SlO K md P ρ σ c F as)(g:Gr c F as H' F' as')(h:md[i]?=some .o)(hv:Ow K (λa=>c a=none) H' F' as' v d):SlO K md P (ρ.set i (some d)) (σ.set i (some v)) H' F' as':=by
 have s':=s.step g
 rcases hv with⟨r,hv⟩ | ⟨a,n,G,rfl,rfl,E,C,B,l,z⟩
 ·exact s'.setN h r hv
 ·refine s'.set h (by decide) (.inr ⟨a,n,G,rfl,rfl,E,C,B,λp=>s.pd a p l,z⟩) λb L j Q _ y hd J u x q=>?_
  cases y;obtain⟨v,h1,h2⟩:=s.sl j .o _ u x;rw[q] at h1;cases h1
  rcases h2 with⟨h2,_⟩ | ⟨T,I,_,m,_,f,_⟩
  ·cases h2
  ·cases m;rw[l] at f;cases f
end
section
variable {X:Cx}{md:List Md}{P:Pt}{R:RR}
def bj:MS:=λρ O=>.nx ρ O
def aD(a b:MS):MS:=λρ O=>match a ρ O with
 | .nx ρ' O'=>b ρ' O'
 |r=>r
theorem cL:VSs X md P R [] bj:=Su.imp λD σ H q=>by
 obtain⟨ρ,O,F,a,r,s,k⟩:=q;exact k σ H F a GrS.refl r s
theorem gq{K:Frag}{mg:Str->Option Value}{D:Ends}{H F n q:Hp}{as l:List Addr}(g:GrS P H F as n q l){f:Fl}(k:g8 K mg md P R D H F as f):g8 K mg md P R D n q l f:=by
 cases f with
 |nx j m=>exact λa h i b c=>k a h i b (g.trans c)
 |bk j m=>exact λa h i b c=>k a h i b (g.trans c)
 |ct j m=>exact λa h i b c=>k a h i b (g.trans c)
 |rt d m=>exact λa h i b c=>k a h i b (g.trans c)
 |ex _ _=>exact k
 |no=>exact k
theorem aL{st:Stmt}{rest:List Stmt}{a b:MS}(h1:VS X md P R st a)(h2:VSs X md P R rest b):VSs X md P R (st::rest) (aD a b):=(Sw h1 h2).imp λD σ H q=>by
 obtain⟨ρ,O,F,l,r,s,k⟩:=q;refine⟨ρ,O,F,l,r,s,?_⟩;unfold aD at k
 cases e:a ρ O with
 |nx c f =>
  rw[e] at k;dsimp only at k
  exact λn u m h g j i=>⟨c,f,m,h,j,i,gq g k⟩
 |bk c f=>rw[e] at k;exact k
 |ct c f=>rw[e] at k;exact k
 |rt d f=>rw[e] at k;exact k
 |ex x f=>rw[e] at k;exact k
 |no=>rw[e] at k;exact k
theorem aM{st:Stmt}{a:MS}(h1:VS X md P R st a):VSs X md P R [st] a:=Sx h1
def pF:MS:=λρ O=>.bk ρ O
theorem J0{a:Pos}:VS X md P R (.Break a) pF:=SJ.imp λD σ H q=>by
 obtain⟨ρ,O,F,b,r,s,k⟩:=q;exact k σ H F b GrS.refl r s
def Aw:MS:=λ_ _=>.no
theorem J1{st:Stmt}:VS X md P R st Aw:=(Tc (X:=X) (st:=st)).imp λD σ H q=>by
 obtain⟨ρ,O,F,a,r,s,k⟩:=q;exact False.elim k
def sU(m:M D):MS:=λρ O=>match m ρ O with
 | .ok _ O'=>.nx ρ O'
 | .ex x O'=>.ex x O'
 | .no=>.no
theorem Xl{e:Expr}{a:Pos}{m:M D}(h:SE X md P e m)(b:swapsWith e none a.line X.env=pure false:=by rfl):VS X md P R (.Expr e a) (sU m):=(rH h b).imp λD σ H q=>by
 obtain⟨ρ,O,F,c,r,s,k⟩:=q;unfold sU at k
 cases e:m ρ O with
 |ok d f =>
  rw[e] at k;exact⟨ρ,_,F,c,_,_,r,s,e,λv H' F' as' g r' _=>k σ H' F' as' g.toS r' (s.step g)⟩
 |ex x f=>rw[e] at k;exact False.elim k
 |no=>rw[e] at k;exact False.elim k
def aV(m:M D):MS:=λρ O=>match m ρ O with
 | .ok d O'=>.rt d O'
 | .ex x O'=>.ex x O'
 | .no=>.no
theorem J2(l:fZ R){e:Expr}{b:Pos}{m:M D}(h:PE X e (tM X.K X.mg md P R m)):VS X md P R (.Return (some e) b) (aV m):=(Ig h).imp λD σ H q=>by
 obtain⟨ρ,O,F,n,r,s,k⟩:=q;unfold aV at k
 cases e:m ρ O with
 |ok d u =>
  rw[e] at k;exact⟨ρ,_,F,n,_,_,r,s,e,λv y z c g f i=>k v y z c g.toS f (l _ _ _ _ _ _ _ (λa j p=>s.pd a p j) i)⟩
 |ex x u=>rw[e] at k;exact False.elim k
 |no=>rw[e] at k;exact False.elim k
theorem cg{e:Expr}{a:Pos}{m:M D}(h:VE X md P e m):VS X md P (rV X.K) (.Return (some e) a) (aV m):=J2 b8 h
theorem fO{e:Expr}{a:Pos}{m:M D}(h:OE X md P e m):VS X md P (rO X.K) (.Return (some e) a) (aV m):=J2 dD h
theorem nO(i:Nat){x:Str}{p c:Pos}(j:md[i]?=some .o:=by rfl)(hN:X.N[i]?=some x:=by rfl)(h:Vis X.env.scope x:=by first | exact Or.inl rfl | exact Or.inr (Or.inl rfl) | exact Or.inr (Or.inr rfl))
  (hd:(x == ("__debug__":Str))=false:=by decide) (f:(x == ("__classdict__":Str))=false:=by decide):VS X md P (rO X.K) (.Return (some (.Name x p)) c) (aV (aa i)):=(Ig (lL (i:=i) hN h hd f)).imp λD σ H q=>by
 obtain⟨ρ,O,F,C,r,s,k⟩:=q;unfold aV at k
 cases e:aa i ρ O with
 |ok d E =>
  rw[e] at k;obtain⟨b,rfl⟩:=vG e;obtain⟨v,h1,h2⟩:=s.sl i .o d j b;refine⟨v,h1,k v H F C GrS.refl r ?_⟩
  rcases h2 with h2 | ⟨a,g,B,b,y,u,z,n,m,l⟩
  ·exact .inl h2
  ·exact .inr ⟨a,g,B,b,y,u,z,n,m,l⟩
 |ex x E=>rw[e] at k;exact False.elim k
 |no=>rw[e] at k;exact False.elim k
def bc(t:M Bool)(a b:MS):MS:=λρ O=>match t ρ O with
 | .ok c O'=>if c=true then a ρ O' else b ρ O'
 | .ex x O'=>.ex x O'
 | .no=>.no
theorem cD{c:Expr}{a b:List Stmt}{h:Pos}{t:M Bool}{l j:MS}(n:TsE X md P c t)(u:VSs X md P R a l)(hb:VSs X md P R b j):VS X md P R (.If c a b h) (bc t l j):=(S8 n u hb).imp λD σ H q=>by
 obtain⟨ρ,O,F,y,r,s,k⟩:=q;unfold bc at k
 cases e:t ρ O with
 |ok c f =>
  rw[e] at k;refine⟨ρ,_,F,y,_,_,r,s,e,λz m d g i=>?_⟩;dsimp only at k
  cases c with
  |true =>
   rw[if_pos rfl] at k ⊢;exact⟨ρ,f,m,d,i,s.step g,gq g.toS k⟩
  |false =>
   rw[if_neg zh] at k ⊢;exact⟨ρ,f,m,d,i,s.step g,gq g.toS k⟩
 |ex x f=>rw[e] at k;exact False.elim k
 |no=>rw[e] at k;exact False.elim k
def aF(i:Nat)(m:M D):MS:=λρ O=>match m ρ O with
 | .ok d O'=>.nx (ρ.set i (some d)) O'
 | .ex x O'=>.ex x O'
 | .no=>.no
theorem J3{K:Frag}{mg:Str->Option Value}{i:Nat}{m:M D}{t:TE}(h:md[i]?=some .v)(f:∀σ H Q,tM K mg md P (rV K) m σ H Q->t σ H Q){D:Ends}{σ:St}{H:Hp}(q:tMS K mg md P R (aF i m) D σ H):rK t (rJ i) D σ H:=by
 obtain⟨ρ,O,F,j,r,s,k⟩:=q;unfold aF at k
 cases e:m ρ O with
 |ok d l =>
  rw[e] at k;exact f _ _ _ ⟨ρ,_,F,j,_,_,r,s,e,λv n u a g b c=>k _ n u a g.toS b ((s.step g).setV h c)⟩
 |ex x l=>rw[e] at k;exact False.elim k
 |no=>rw[e] at k;exact False.elim k
theorem Xm{K:Frag}{mg:Str->Option Value}{i:Nat}{m:M D}{t:TE}(h:md[i]?=some .o)(f:∀σ H Q,tM K mg md P (rO K) m σ H Q->t σ H Q){D:Ends}{σ:St}{H:Hp}(q:tMS K mg md P R (aF i m) D σ H):rK t (rJ i) D σ H:=by
 obtain⟨ρ,O,F,j,r,s,k⟩:=q;unfold aF at k
 cases e:m ρ O with
 |ok d l =>
  rw[e] at k;exact f _ _ _ ⟨ρ,_,F,j,_,_,r,s,e,λv n u a g b c=>k _ n u a g.toS b (s.setO g h c)⟩
 |ex x l=>rw[e] at k;exact False.elim k
 |no=>rw[e] at k;exact False.elim k
theorem bf{i:Nat}{x:Str}{e:Expr}{a pos':Pos}{m:M D}(hN:X.N.Nodup)(hi:X.N[i]?=some x)(b:Loc X.env.scope x)(h:VE X md P e m)(d:md[i]?=some .v:=by rfl)(c:swapsWith e (some (.Name x pos')) a.line X.env=pure false:=by rfl)
  (f:X.fn x=true\/X.env.scope.names.lookup x=some .local:=by first | exact .inl rfl | exact .inr rfl | assumption):VS X md P R (.Assign [.Name x pos'] e a) (aF i m):=(Ih (i:=i) hN hi b h c f).imp λD σ H q=>J3 d (λ_ _ _ z=>z) q
theorem il{i:Nat}{x:Str}{e:Expr}{a pos':Pos}{m:M D}(hN:X.N.Nodup)(hi:X.N[i]?=some x)(b:Loc X.env.scope x)(h:OE X md P e m)(d:md[i]?=some .o:=by rfl)(c:swapsWith e (some (.Name x pos')) a.line X.env=pure false:=by rfl)
  (f:X.fn x=true\/X.env.scope.names.lookup x=some .local:=by first | exact .inl rfl | exact .inr rfl | assumption):VS X md P R (.Assign [.Name x pos'] e a) (aF i m):=(Ih (i:=i) hN hi b h c f).imp λD σ H q=>Xm d (λ_ _ _ z=>z) q
abbrev MG:=D->az->Option az
def tMG(K:Frag)(mg:Str->Option Value)(md:List Md)(P:Pt)(g:MG):TG:=λv σ H Q=>∃ρ O F c d b,RlO K mg O H F c/\SlO K md P ρ σ H F c/\Rp K F c v d/\g d ρ=some b/\∀a,SlO K md P b a H F c->Q a H
def Xn(K:Frag)(mg:Str->Option Value)(md:List Md)(P:Pt)(g:List D->az->Option az):TGs:=λf σ H Q=>∃ρ O F c d b,RlO K mg O H F c/\SlO K md P ρ σ H F c/\Rps K F c f d/\g d ρ=some b/\∀a,SlO K md P b a H F c->Q a H
def VG(X:Cx)(md:List Md)(P:Pt)(a:Expr)(g:MG):Prop:=PG X a (tMG X.K X.mg md P g)
def VGs(X:Cx)(md:List Md)(P:Pt)(a:List Expr)(g:List D->az->Option az):Prop:=PGs X a (Xn X.K X.mg md P g)
theorem PG.imp{e:Expr}{t t':TG}(h:PG X e t)(k:∀v σ H Q,t' v σ H Q->t v σ H Q):PG X e t':=λpins s σ H v u Q I r q=>h pins s σ H v u Q I r (k v σ H Q q)
theorem PGs.imp{e:List Expr}{t t':TGs}(h:PGs X e t)(k:∀v σ H Q,t' v σ H Q->t v σ H Q):PGs X e t':=λpins s σ H v u Q I r q=>h pins s σ H v u Q I r (k v σ H Q q)
def mgN(i:Nat):MG:=λd ρ=>some (ρ.set i (some d))
theorem bU{i:Nat}{x:Str}{a:Pos}(hN:X.N.Nodup)(hi:X.N[i]?=some x)(b:Loc X.env.scope x)(f:md[i]?=some .v:=by rfl)(g:X.fn x=true\/X.env.scope.names.lookup x=some .local:=by first | exact .inl rfl | exact .inr rfl | assumption):VG X md P (.Name x a) (mgN i):=
 (Td (i:=i) hN hi b g).imp λv σ H Q q=>by
  obtain⟨ρ,O,F,j,d,h,r,s,c,e,k⟩:=q;cases e;exact k _ (s.setV f c)
def ir:List D->az->Option az:=λa ρ=>match a with
 | []=>some ρ
 | _=>none
def cM(g:MG)(r:List D->az->Option az):List D->az->Option az:=λa ρ=>match a with
 |d::a=>(g d ρ).bind λb=>r a b
 | []=>none
theorem sV:VGs X md P [] ir:=Tg.imp λv σ H Q q=>by
 obtain⟨ρ,O,F,d,b,c,r,s,a,e,k⟩:=q
 cases b with
 |nil=>cases e;exact⟨a.un0,k _ s⟩
 |cons _ _=>cases e
theorem gb{e:Expr}{es:List Expr}{g:MG}{r:List D->az->Option az}(h1:VG X md P e g)(h2:VGs X md P es r)(m:(assignEach (e::es) X.env).map (·.2)=assign e X.env::(assignEach es X.env).map (·.2):=by rfl):VGs X md P (e::es) (cM g r):=
 (Th h1 h2 m).imp λv σ H Q q=>by
  obtain⟨ρ,O,F,f,a,b,c,s,l,e,k⟩:=q
  cases a with
  |nil=>cases e
  |cons d a =>
   obtain⟨x,i,rfl,j,n⟩:=l.un;unfold cM at e;dsimp only at e
   cases e1:g d ρ with
   |none=>rw[e1] at e;cases e
   |some ρ1 =>
    rw[e1] at e;exact⟨x,i,rfl,ρ,O,F,f,d,ρ1,c,s,j,e1,λu h=>⟨ρ1,O,F,f,a,b,c,h,n,e,k⟩⟩
def gw(n:Nat)(r:List D->az->Option az):MG:=λd ρ=>match d with
 | .tup ds=>if ds.length=n then r ds ρ else none
 | _=>none
theorem sW{es:List Expr}{c:Pos}{k:Nat}{r:List D->az->Option az}(n:Nat)(u:X.calm=true)(h:VGs X md P es r)(l:(assignEach es X.env).length=n:=by rfl)(f:(assignEach es X.env).findIdx? (·.1)=none:=by rfl):VG X md P (.Tuple es k c) (gw n r):=
 (Tj u h l f).imp λv σ H Q q=>by
  obtain⟨ρ,O,F,x,d,b,g,s,j,e,k⟩:=q
  cases d with
  |tup ds =>
   obtain⟨a,i,rfl,h1,h2⟩:=j.unT;unfold gw at e;dsimp only at e;split at e
   ·rename_i m;exact⟨a,i,rfl,Same.seqT g.fh h1,by rw[h2.length];exact m,ρ,O,F,x,ds,b,g,s,h2,e,k⟩
   ·cases e
  | _=>cases e
def sX(m:M D)(g:MG):MS:=λρ O=>match m ρ O with
 | .ok d O'=>match g d ρ with
  |some a=>.nx a O'
  |none=>.no
 | .ex x O'=>.ex x O'
 | .no=>.no
theorem Xo{a e:Expr}{b:Pos}{m:M D}{g:MG}(h:VE X md P e m)(B:VG X md P a g)(z:swapsWithSole [a] e b.line X.env=pure false:=by rfl)(hw:swappedStores [a] e X.env=pure none:=by rfl)
  (h1:(assignEach [a] X.env).map (·.2)=[assign a X.env]:=by rfl):VS X md P R (.Assign [a] e b) (sX m g):=(Tn h B z hw h1).imp λD σ H q=>by
 obtain⟨ρ,O,F,C,r,s,k⟩:=q;unfold sX at k
 cases e:m ρ O with
 |ok d l =>
  rw[e] at k;dsimp only at k
  cases e2:g d ρ with
  |none=>rw[e2] at k;exact False.elim k
  |some ρ' =>
   rw[e2] at k;refine⟨ρ,_,F,C,_,_,r,s,e,λv E n c j i y=>?_⟩;exact⟨ρ,l,n,c,d,ρ',i,s.step j,y,e2,λf u=>k f E n c j.toS i u⟩
 |ex x l=>rw[e] at k;exact False.elim k
 |no=>rw[e] at k;exact False.elim k
end
structure nP(K:Frag)(mg:Str->Option Value)(P:Pt)(J:It)(ds:List D)(H F:Hp)(as:List Addr):Prop where
 turn:∀(i:Nat) (d:D) (H2 F2:Hp) (as2:List Addr),GrS P H F as H2 F2 as2->(∃O,RlO K mg O H2 F2 as2)->ds[i]?=some d->J.go i H2/\∀x H3,J.yld i H2 x H3->∃F3,Gr H2 F2 as2 H3 F3 as2/\(∀O,RlO K mg O H2 F2 as2->RlO K mg O H3 F3 as2)/\Rp K F3 as2 x d
 stop:∀(H2 F2:Hp) (as2:List Addr),GrS P H F as H2 F2 as2->(∃O,RlO K mg O H2 F2 as2)->J.stop ds.length H2
structure J4(K:Frag)(mg:Str->Option Value)(J:It)(ds:List D)(H F:Hp)(as:List Addr):Prop where
 turn:∀(i:Nat) (d:D) (H2 F2:Hp) (as2:List Addr),Gr H F as H2 F2 as2->(∃O,RlO K mg O H2 F2 as2)->ds[i]?=some d->J.go i H2/\∀x H3,J.yld i H2 x H3->∃F3,Gr H2 F2 as2 H3 F3 as2/\(∀O,RlO K mg O H2 F2 as2->RlO K mg O H3 F3 as2)/\Rp K F3 as2 x d
 stop:∀(H2 F2:Hp) (as2:List Addr),Gr H F as H2 F2 as2->(∃O,RlO K mg O H2 F2 as2)->J.stop ds.length H2
theorem nP.e{K:Frag}{mg:Str->Option Value}{P:Pt}{J:It}{ds:List D}{H F:Hp}{as:List Addr}(h:nP K mg P J ds H F as):J4 K mg J ds H F as:=⟨λi d b c a g=>h.turn i d b c a g.toS,λb c a g=>h.stop b c a g.toS⟩
def J5(K:Frag)(mg:Str->Option Value)(md:List Md)(P:Pt)(m:M (List D)):TI:=λσ H Q=>∃ρ O F c f g,RlO K mg O H F c/\SlO K md P ρ σ H F c/\m ρ O=.ok f g /\
 ∀J b d a,Gr H F c b d a->RlO K mg g b d a->J4 K mg J f b d a->Q J b
def VIc(X:Cx)(md:List Md)(P:Pt)(a iter:Expr)(m:M (List D)):Prop:=PI X a iter (J5 X.K X.mg md P m)
def tMI(K:Frag)(mg:Str->Option Value)(md:List Md)(P:Pt)(m:M (List D)):TI:=λσ H Q=>∃ρ O F c f g,RlO K mg O H F c/\SlO K md P ρ σ H F c/\m ρ O=.ok f g /\
 ∀J b d a,Gr H F c b d a->RlO K mg g b d a->nP K mg P J f b d a->Q J b
def VI(X:Cx)(md:List Md)(P:Pt)(a iter:Expr)(m:M (List D)):Prop:=PI X a iter (tMI X.K X.mg md P m)
section
variable {X:Cx}{md:List Md}{P:Pt}{R:RR}
theorem PI.imp{a e:Expr}{t t':TI}(h:PI X a e t)(k:∀σ H Q,t' σ H Q->t σ H Q):PI X a e t':=λpins s σ H Q I q=>h pins s σ H Q I (k σ H Q q)
theorem Ay{b e:Expr}{m:M (List D)}(h:VI X md P b e m):VIc X md P b e m:=h.imp λσ H Q q=>by
 obtain⟨ρ,O,F,i,f,j,r,s,e,k⟩:=q;exact⟨ρ,O,F,i,f,j,r,s,e,λJ l n a g c d=>k J l n a g c d.e⟩
def bK(g:MG)(b:MS):List D->MS
 | [],ρ,O=>.nx ρ O
 |d::ds,ρ,O=>match g d ρ with
  |none=>.no
  |some a=>match b a O with
   | .nx ρ2 O2=>bK g b ds ρ2 O2
   | .ct ρ2 O2=>bK g b ds ρ2 O2
   | .bk ρ2 O2=>.nx ρ2 O2
   |r=>r
def cA(m:M (List D))(g:MG)(b:MS):MS:=λρ O=>match m ρ O with
 | .ok ds O'=>bK g b ds ρ O'
 | .ex x O'=>.ex x O'
 | .no=>.no
theorem Xp{K:Frag}{mg:Str->Option Value}{m:M (List D)}{g:MG}{b:MS}{D:Ends}{σ:St}{H:Hp}(q:tMS K mg md P R (cA m g b) D σ H):yR (tMI K mg md P m) (tMG K mg md P g) (tMS K mg md P R b) D σ H:=by
 obtain⟨ρ,O,F,as,r,s,k⟩:=q;unfold cA at k
 cases e:m ρ O with
 |ex x B=>rw[e] at k;exact False.elim k
 |no=>rw[e] at k;exact False.elim k
 |ok ds O1 =>
  rw[e] at k;dsimp only at k;refine⟨ρ,_,F,as,_,_,r,s,e,λJ H1 Z E g1 r1 hJ=>?_⟩;have k1:=gq (R:=R) g1.toS k;refine⟨λi m U I=>m=ds.length - i/\i<=ds.length/\∃z B L c,GrS P H1 Z E I L c/\RlO K mg B I L c/\SlO K md P z U I L c/\g8 K mg md P R D I L c (bK g b (ds.drop i) z B),⟨ds.length,by simp,Nat.zero_le _,ρ,O1,Z,E,GrS.refl,r1,s.step g1,by rw[List.drop_zero];exact k1⟩,?_⟩;rintro i n U I ⟨rfl,hi,z,B,L,c,g',r',s',k'⟩
  by_cases W:i<ds.length
  ·have hd:=zv W;obtain⟨go,yl⟩:=hJ.turn i _ I L c g' ⟨B,r'⟩ hd;rw[List.drop_eq_getElem_cons W] at k';refine .inr ⟨go,λj u=>∃h G l a,GrS P H1 Z E u l a/\RlO K mg G u l a/\SlO K md P h j u l a/\g8 K mg md P R D u l a (bK g b (ds.drop (i+1)) h G),λj u h2=>⟨ds.length - (i+1),by omega,rfl,W,h2⟩,λx H3 y=>?_⟩;obtain⟨F3,Y,r3,hx⟩:=yl x H3 y;have r3':=r3 B r';unfold bK at k'
   cases eg:g ds[i] z with
   |none=>rw[eg] at k';exact False.elim k'
   |some ρ1 =>
    rw[eg] at k';dsimp only at k';refine⟨z,B,F3,c,ds[i],ρ1,r3',s'.step Y,hx,eg,λσ4 s4=>?_⟩;refine⟨ρ1,B,F3,c,r3',s4,?_⟩;have g4:GrS P H1 Z E H3 F3 c:=g'.trans Y.toS
    have keep:=λ{f}=>gq (K:=K) (mg:=mg) (md:=md) (R:=R) (D:=D) (f:=f) (Y.toS (P:=P))
    cases eb:b ρ1 B with
    |nx h G =>
     rw[eb] at k'
     exact λj u l a C T Q=>⟨h,G,l,a,g4.trans C,T,Q,gq C (keep k')⟩
    |ct h G =>
     rw[eb] at k'
     exact λj u l a C T Q=>⟨h,G,l,a,g4.trans C,T,Q,gq C (keep k')⟩
    |bk h G =>
     rw[eb] at k'
     exact λj u l a C T Q=>k' j u l a (Y.toS.trans C) T Q
    |rt d G =>
     rw[eb] at k'
     exact λv u l a C T Q=>k' v u l a (Y.toS.trans C) T Q
    |ex _ _=>rw[eb] at k';exact False.elim k'
    |no=>rw[eb] at k';exact False.elim k'
  ·have hi':i=ds.length:=by omega
   subst hi';refine .inl ⟨hJ.stop I L c g' ⟨B,r'⟩,?_⟩;rw[List.drop_length] at k';exact k' U I L c GrS.refl r' s'
theorem fH{a iter:Expr}{body:List Stmt}{c:Pos}{m:M (List D)}{g:MG}{b:MS}(i:X.calm=true)(hi:VI X md P a iter m)(h:VG X md P a g)(hb:VSs X md P R body b)(f:PassesOwn (model X.prog X.w) X.A X.env X.xe:=by exact PassesOwn.never)
  (d:∀x,foldedSetIterable iter X.env x=pure x:=by intro _;rfl):VS X md P R (.For a iter body [] c) (cA m g b):=(Ik f i hi h hb d).imp λ_ _ _ q=>Xp q
def dw(t:M Bool)(b:MS):Nat->MS
 | 0,_,_=>.no
 |n+1,ρ,O=>match t ρ O with
  | .ok true O1=>match b ρ O1 with
   | .nx ρ2 O2=>dw t b n ρ2 O2
   | .ct ρ2 O2=>dw t b n ρ2 O2
   | .bk ρ2 O2=>.nx ρ2 O2
   |r=>r
  | .ok false O1=>.nx ρ O1
  | .ex x O'=>.ex x O'
  | .no=>.no
def gf(n:Nat)(t:M Bool)(b:MS):MS:=dw t b n
theorem Xq{K:Frag}{mg:Str->Option Value}{n:Nat}{t:M Bool}{b:MS}{D:Ends}{σ:St}{H:Hp}(q:tMS K mg md P R (gf n t b) D σ H):Ii (tMT K mg md P t) (tMS K mg md P R b) D σ H:=by
 refine⟨λn h C=>tMS K mg md P R (dw t b n) D h C,⟨n,q⟩,?_⟩;rintro m σ1 H1 ⟨ρ,O,F,as,r,s,k⟩
 cases m with
 |zero=>exact False.elim k
 |succ m =>
  unfold dw at k
  cases e:t ρ O with
  |ex x L=>rw[e] at k;exact False.elim k
  |no=>rw[e] at k;exact False.elim k
  |ok c O1 =>
   rw[e] at k;refine⟨ρ,_,F,as,_,_,r,s,e,λJ G B y E=>?_⟩
   cases c with
   |false =>
    rw[if_neg zh];exact k σ1 J G B y.toS E (s.step y)
   |true =>
    rw[if_pos rfl];refine⟨λh C=>tMS K mg md P R (dw t b m) D h C,λh C I=>⟨m,je m,I⟩,ρ,O1,G,B,E,s.step y,?_⟩;dsimp only at k
    have keep:=λ{f}=>gq (K:=K) (mg:=mg) (md:=md) (R:=R) (D:=D) (f:=f) (y.toS (P:=P))
    cases eb:b ρ O1 with
    |nx ρ2 O2 =>
     rw[eb] at k
     exact λg z u a l j i=>⟨ρ2,O2,u,a,j,i,gq l (keep k)⟩
    |ct ρ2 O2 =>
     rw[eb] at k
     exact λg z u a l j i=>⟨ρ2,O2,u,a,j,i,gq l (keep k)⟩
    |bk ρ2 O2 =>
     rw[eb] at k
     exact λg z u a l j i=>k g z u a (y.toS.trans l) j i
    |rt d O2 =>
     rw[eb] at k
     exact λg z u a l j i=>k g z u a (y.toS.trans l) j i
    |ex _ _=>rw[eb] at k;exact False.elim k
    |no=>rw[eb] at k;exact False.elim k
theorem nQ(n:Nat){c:Expr}{body:List Stmt}{a:Pos}{t:M Bool}{b:MS}(f:TsE X md P c t)(hb:VSs X md P R body b)(d:PassesOwn (model X.prog X.w) X.A X.env X.xe:=by exact PassesOwn.never):VS X md P R (.While c body [] a) (gf n t b):=
 (Tp d f hb).imp λ_ _ _ q=>Xq q
def cZ(g:MG)(t:M Bool)(m:M D):List D->az->ak->List D->Res (List D)
 | [],ρ,O,acc=>.ok acc O
 |d::ds,ρ,O,acc=>match g d ρ with
  |none=>.no
  |some a=>match t a O with
   | .ok true O1=>match m a O1 with
    | .ok y O2=>cZ g t m ds a O2 (acc++[y])
    | .ex x O'=>.ex x O'
    | .no=>.no
   | .ok false O1=>cZ g t m ds a O1 acc
   | .ex x O'=>.ex x O'
   | .no=>.no
def iu(own:Nat)(cap:List Nat)(ρ:az):az:=List.replicate own none++cap.map λj=>(ρ[j]?).join
def c7(m:M (List D))(own:Nat)(cap:List Nat)(g:MG)(t:M Bool)(e:M D):M D:=λρ O=>(m ρ O).bind λa d=>if a.length<=1000000 then(cZ g t e a (iu own cap ρ) d []).bind λb c=>.ok (.lst b) c else .no
def cQ:M Bool:=λ_ O=>.ok true O
def cMd(own:Nat)(cap:List Nat)(md:List Md):List Md:=List.replicate own .v++cap.map λj=>match md[j]? with
 |some .v=>.v
 | _=>.s
theorem J6{K:Frag}{ρ:az}{σ:St}{H F:Hp}{as:List Addr}{own:List Str}{cap:List Nat}(s:SlO K md P ρ σ H F as)(u:∀j∈cap,j<md.length):SlO K (cMd own.length cap md) (Pt.all H) (iu own.length cap ρ) (compSt own cap σ) H F as:=by
 refine⟨by simp[compSt,cMd],by simp[iu,cMd],λa h=>h,λi m d c b=>?_,λi j a g B h1=>?_,λ_ z=>nomatch z⟩
 ·unfold iu at b;unfold cMd at c;unfold compSt
  by_cases hi:i<own.length
  ·rw[zA (by simpa using hi),List.getElem?_replicate_of_lt hi] at b;cases b
  ·have hi':own.length<=i:=Nat.le_of_not_lt hi;rw[zC (by simpa using hi'),List.length_replicate,zF] at b c;rw[zC (by simpa using hi'),zd,zF]
   cases q:cap[i - own.length]? with
   |none=>rw[q] at b;cases b
   |some j =>
    rw[q] at c b;simp only[Option.map_some,Option.some.injEq] at c b ⊢
    cases q2:ρ[j]? with
    |none=>rw[q2] at b;cases b
    |some o =>
     rw[q2] at b;have e2':o=some d:=b;subst e2';obtain⟨x,v,h1,h2,h3⟩:=s.get q2;rw[h1] at c;refine⟨v,by rw[h2];rfl,?_⟩
     cases x with
     |v=>dsimp only at c;subst c;exact h3
     |s =>
      dsimp only at c;subst c
      rcases h3 with h3 | ⟨a,l,g,c,b,f,r,y,n⟩
      ·exact .inl h3
      ·exact .inr ⟨a,l,g,c,b,f,r,(show H a≠none by rw[f];exact λz=>nomatch z),n⟩
     |o =>
      dsimp only at c;subst c
      rcases h3 with⟨_,h3⟩ | ⟨a,l,g,c,b,f,C,r,y,n⟩
      ·exact .inl h3
      ·exact .inr ⟨a,l,g,c,b,f,r,(show H a≠none by rw[f];exact λz=>nomatch z),n⟩
 ·exfalso
  unfold cMd at h1
  by_cases hi:i<own.length
  ·rw[zA (by simpa using hi),List.getElem?_replicate_of_lt hi] at h1;cases h1
  ·have hi':own.length<=i:=Nat.le_of_not_lt hi;rw[zC (by simpa using hi'),List.length_replicate,zF] at h1
   cases q:cap[i - own.length]? with
   |none=>rw[q] at h1;cases h1
   |some j =>
    rw[q] at h1;simp only[Option.map_some,Option.some.injEq] at h1
    split at h1<;>cases h1
end
section
variable {X:Cx}{md:List Md}{P:Pt}{R:RR}
def xM(K:Frag)(mg:Str->Option Value)(md:List Md)(R:RR)(m:M D):TE:=λσ H Q=>∃P,tM K mg md P R m σ H Q
def xMT(K:Frag)(mg:Str->Option Value)(md:List Md)(m:M Bool):TT:=λσ H Q=>∃P,tMT K mg md P m σ H Q
def xMG(K:Frag)(mg:Str->Option Value)(md:List Md)(g:MG):TG:=λv σ H Q=>∃P,tMG K mg md P g v σ H Q
theorem xm{e:Expr}{m:M D}(h:∀P,PE X e (tM X.K X.mg md P R m)):PE X e (xM X.K X.mg md R m):=λpins s σ H Q I ⟨P,q⟩=>h P pins s σ H Q I q
theorem xmg{e:Expr}{g:MG}(h:∀P,VG X md P e g):PG X e (xMG X.K X.mg md g):=λpins s σ H v u Q I r ⟨P,q⟩=>h P pins s σ H v u Q I r q
theorem xmt{e:List Expr}{m:M Bool}(h:∀P,lQ X e (tMT X.K X.mg md P m)):lQ X e (xMT X.K X.mg md m):=λpins s σ H Q I ⟨P,q⟩=>h P pins s σ H Q I q
def VIf(X:Cx)(md:List Md)(P:Pt)(e:List Expr)(m:M Bool):Prop:=lQ X e (tMT X.K X.mg md P m)
theorem iK:VIf X md P [] cQ:=λpins s σ H Q I q=>by
 obtain⟨ρ,O,F,a,d,b,r,s,e,k⟩:=q;cases e;exact Wr pins _ σ H Q I (k H F a Gr.refl r)
theorem J7{c:Expr}{m:M Bool}(h:TsE X md P c m):VIf X md P [c] m:=Ws h
theorem J8{K:Frag}{mg:Str->Option Value}{m:M (List D)}{own:List Str}{cap:List Nat}{g:MG}{t:M Bool}{e:M D}(hcap:∀j∈cap,j<md.length){σ:St}{H:Hp}{Q:VK}(q:tM K mg md P (rO K) (c7 m own.length cap g t e) σ H Q):
  vC (J5 K mg md P m) own cap (xMG K mg (cMd own.length cap md) g) (xMT K mg (cMd own.length cap md) t) (xM K mg (cMd own.length cap md) (rV K) e) σ H Q:=by
 obtain⟨ρ,O,F,as,d,OZ,r,s,G,k⟩:=q;obtain⟨l,O1,e1,G⟩:=Res.bind_ok G;split at G
 ·rename_i hz;obtain⟨yf,O2,e2,G⟩:=Res.bind_ok G;cases G;refine⟨ρ,_,F,as,_,_,r,s,e1,λJ H1 F1 L g1 r1 hJ=>?_⟩;have sb:=J6 (own:=own) (s.step g1) hcap
  refine⟨λi n W Z U=>n=l.length - i/\i<=l.length/\∃f C u a b,Gr H1 F1 L U u a/\RlO K mg C U u a/\SlO K (cMd own.length cap md) (Pt.all H1) f Z U u a/\Rps K u a W b/\b.length<=i /\
   cZ g t e (l.drop i) f C b=.ok yf OZ,⟨l.length,by simp,Nat.zero_le _,iu own.length cap ρ,O1,F1,L,[],Gr.refl,r1,sb,Rps.nil,zb _,by rw[List.drop_zero];exact e2⟩,?_⟩
  rintro i n W Z U ⟨rfl,hi,f,C,u,a,b,g',r',s',hy,hl,ec⟩
  by_cases I:i<l.length
  ·obtain⟨go,yl⟩:=hJ.turn i _ U u a g' ⟨C,r'⟩ (zv I)
   refine .inr ⟨go,?_,λW Y H2=>∃ρ2 O3 F2 B h,Gr H1 F1 L H2 F2 B/\RlO K mg O3 H2 F2 B/\SlO K (cMd own.length cap md) (Pt.all H1) ρ2 Y H2 F2 B/\Rps K F2 B W h/\h.length<=i+1 /\
    cZ g t e (l.drop (i+1)) ρ2 O3 h=.ok yf OZ,λys2 Y H2 h2=>⟨l.length - (i+1),by omega,rfl,I,h2⟩,λx H3 y=>?_⟩
   ·rw[hy.length]
    have:=f9 hz
    omega
   obtain⟨F3,g3,r3,hx⟩:=yl x H3 y;have r3':=r3 C r';have g13:=g'.trans g3;rw[List.drop_eq_getElem_cons I] at ec;unfold cZ at ec
   cases eg:g l[i] f with
   |none=>rw[eg] at ec;cases ec
   |some ρ1 =>
    rw[eg] at ec;dsimp only at ec;refine⟨_,f,C,F3,a,l[i],ρ1,r3',s'.step g3,hx,eg,λσ4 s4=>?_⟩
    cases et:t ρ1 C with
    |ex _ _=>rw[et] at ec;cases ec
    |no=>rw[et] at ec;cases ec
    |ok c O4 =>
     rw[et] at ec;refine⟨_,ρ1,C,F3,a,c,O4,r3',s4,et,λH5 F5 as5 E r5=>?_⟩
     cases c with
     |false =>
      rw[if_neg zh];exact⟨ρ1,O4,F5,as5,b,g13.trans E,r5,s4.step E,(hy.gr g3).gr E,by omega,ec⟩
     |true =>
      rw[if_pos rfl];dsimp only at ec
      cases em:e ρ1 O4 with
      |ex _ _=>rw[em] at ec;cases ec
      |no=>rw[em] at ec;cases ec
      |ok yd O6 =>
       rw[em] at ec;refine⟨_,ρ1,O4,F5,as5,yd,O6,r5,s4.step E,em,λvy H7 F7 as7 g7 r7 hvy=>?_⟩;exact⟨ρ1,O6,F7,as7,b++[yd],(g13.trans E).trans g7,r7,(s4.step E).step g7,(((hy.gr g3).gr E).gr g7).snoc hvy,by rw[zn];show b.length+1<=i+1;omega,ec⟩
  ·have hi':i=l.length:=by omega
   subst hi';rw[List.drop_length] at ec;cases ec;refine .inl ⟨hJ.stop U u a g' ⟨_,r'⟩,?_,λp T=>?_⟩
   ·rw[hy.length];exact zM hl (f9 hz)
   ·have hF:u p=none:=by
     cases q:u p with
     |none=>rfl
     |some o=>rw[r'.fh p o q] at T;cases T
    exact k _ _ u a ((g1.trans g').trans (Gr.lay T)) (r'.lay T) (.inr ⟨p,W,yf,rfl,rfl,bN,hF,λz=>r'.all z T,(g1.trans g').dm p T,hy⟩)
 ·cases G
variable {tg iter elt:Expr}{ifs:List Expr}{scope:Scope}{pos:Pos}{mi:M (List D)}{g:MG}{t:M Bool}{e:M D}
theorem lU(a:Scope)(b own:List Str)(cap:List Nat)(n:X.calm=true)(hi:VIc X md P tg iter mi)
  (l:∀C s H ex P,VG (cC X scope C (bF b own cap) s H ex) (cMd own.length cap md) P tg g) (h:∀C s H ex P,VIf (cC X scope C (bF b own cap) s H ex) (cMd own.length cap md) P ifs t)
  (m:∀C s H ex P,VE (cC X scope C (bF b own cap) s H ex) (cMd own.length cap md) P elt e)
  (c:∀j∈cap,j<md.length:=by decide) (d:X.env.scope=a:=by rfl) (f:X.N=b:=by rfl) (ok:nF a b scope own cap=true:=by decide +kernel) (i:∀x,foldedSetIterable iter X.env x=pure x:=by intro _;rfl):
  OE X md P (.ListComp elt [⟨tg,iter,ifs,0⟩] scope pos) (c7 mi own.length cap g t e):=
 (JL a b own cap n hi (λC s H ex=>xmg (l C s H ex)) (λC s H ex=>xmt (h C s H ex)) (λC s H ex=>xm (m C s H ex)) d f ok i).imp λ_ _ _ q=>J8 c q
theorem vI{i:Nat}{x:Str}{pos' c:Pos}(f:Scope)(h own:List Str)(cap:List Nat)(hN:X.N.Nodup)(U:X.N[i]?=some x)(hl:Loc X.env.scope x)(hc:X.calm=true)(hi:VIc X md P tg iter mi)
  (hg:∀C s H ex P,VG (cC X scope C (bF h own cap) s H ex) (cMd own.length cap md) P tg g) (W:∀C s H ex P,VIf (cC X scope C (bF h own cap) s H ex) (cMd own.length cap md) P ifs t)
  (he:∀C s H ex P,VE (cC X scope C (bF h own cap) s H ex) (cMd own.length cap md) P elt e)
  (Z:md[i]?=some .v:=by rfl) (m:∀j∈cap,j<md.length:=by decide) (E:swapsWith (.ListComp elt [⟨tg,iter,ifs,0⟩] scope pos) (some (.Name x pos')) c.line X.env=pure true:=by rfl)
  (hf:X.fn x=true\/X.env.scope.names.lookup x=some .local:=by first | exact .inl rfl | exact .inr rfl | assumption)
  (G:X.env.scope=f:=by rfl) (I:X.N=h:=by rfl) (ok:nF f h scope own cap=true:=by decide +kernel) (Y:∀x,foldedSetIterable iter X.env x=pure x:=by intro _;rfl):
  VS X md P R (.Assign [.Name x pos'] (.ListComp elt [⟨tg,iter,ifs,0⟩] scope pos) c) (aF i (c7 mi own.length cap g t e)):=
 (Ww (i:=i) f h own cap hN U hl hc hi (λC s H ex=>xmg (hg C s H ex)) (λC s H ex=>xmt (W C s H ex)) (λC s H ex=>xm (he C s H ex)) E hf G I ok Y).imp λD σ H q =>
  J3 Z (λσ H Q z=>J8 m (by
   obtain⟨ρ,O,F,as,d,O',r,s,e,k⟩:=z;refine⟨ρ,_,F,as,_,_,r,s,e,λv T n l g L y=>?_⟩
   rcases y with⟨_,y⟩ | ⟨a,J,ds,rfl,rfl,e3,B,e5,e6,e7⟩
   ·exact k v T n l g L y
   ·have ff:Same n (upd n a (.lst J)):=λb u q=>by rw[aO (cN q B)];exact q
    exact k _ T (upd n a (.lst J)) l (g.frz e6 B) (L.frz e3 B e5 rfl) (Rp.mkL (.inl (.inl bN)) (Rps.mono ff (λ_ _ z=>z) _ e7)))) q
end
def vSp(K:Frag)(mg:Str->Option Value)(pm:List Md)(R:RR)(c:List D->ak->Res D):Sp:=λvs H Q _ =>
 ∃i O F g d j,RlO K mg O H F g/\cY K H F g pm vs i/\c i O=.ok d j/\∀v f h b,Gr H F g f h b->RlO K mg j f h b->R (λa=>H a=none) f h b v d->Q v f
def bC(n:Nat)(b:MS):List D->ak->Res D:=λa O=>match b (a.map some++List.replicate (n - a.length) none) O with
 | .rt d O'=>.ok d O'
 | .nx _ O'=>.ok .non O'
 | .ex x O'=>.ex x O'
 | _=>.no
theorem cY.len{K:Frag}{H F:Hp}{as:List Addr}:∀{ms:List Md}{vs:List V}{ds:List D},cY K H F as ms vs ds->vs.length=ms.length/\ds.length=ms.length
 | [],[],[],_=>⟨rfl,rfl⟩
 |m::ms,v::vs,d::ds,h=>by
  have:=cY.len h.2
  simp[this.1,this.2]
 | [],[],_::_,h=>h.elim
 | [],_::_,[],h=>h.elim
 | [],_::_,_::_,h=>h.elim
 | _::_,[],[],h=>h.elim
 | _::_,[],_::_,h=>h.elim
 | _::_,_::_,[],h=>h.elim
theorem cY.get{K:Frag}{H F:Hp}{as:List Addr}:∀{ms:List Md}{vs:List V}{ds:List D}{i:Nat}{m:Md}{d:D},cY K H F as ms vs ds->ms[i]?=some m->ds[i]?=some d->∃v,vs[i]?=some v/\rA K m (λ_=>True) H F as v d
 |m::ms,v::vs,d::ds,0,m',d',h,e1,e2=>by
  simp at e1 e2
  subst e1 e2;exact⟨v,rfl,h.1⟩
 |m::ms,v::vs,d::ds,i+1,m',d',h,e1,e2=>by
  obtain⟨a,h1,h2⟩:=cY.get (i:=i) (m:=m') (d:=d') h.2 (by simpa using e1) (by simpa using e2);exact⟨a,by simpa using h1,h2⟩
 | [],[],[],_,_,_,_,e1,_=>by simp at e1
 | [],[],_::_,_,_,_,h,_,_=>h.elim
 | [],_::_,[],_,_,_,h,_,_=>h.elim
 | [],_::_,_::_,_,_,_,h,_,_=>h.elim
 | _::_,[],[],_,_,_,h,_,_=>h.elim
 | _::_,[],_::_,_,_,_,h,_,_=>h.elim
 | _::_,_::_,[],_,_,_,h,_,_=>h.elim
theorem J9{K:Frag}{H F:Hp}{as:List Addr}{N:List Str}{pm g:List Md}{vs:List V}{ds:List D}(h:cY K H F as pm vs ds)(C:(pm++g).length=N.length)(l:∀m∈pm,m≠.o):
  SlO K (pm++g) (Pt.all H) (ds.map some++List.replicate (N.length - ds.length) none) (start N vs) H F as:=by
 obtain⟨h1,h2⟩:=h.len;rw[zn] at C
 have G:vs.length<=N.length:=by omega
 have no:∀i a,(ds.map some++List.replicate (N.length - ds.length) none)[i]?=some (some a)->i<ds.length:=λi a e=>by
  by_cases hi:i<ds.length
  ·exact hi
  ·rw[zC (by simpa using hi),List.getElem?_replicate] at e
   split at e<;>cases e
 refine⟨by unfold start;simp;omega,by simp;omega,λa z=>z,λi m d c b=>?_,λi j a n fs c b E=>?_,λ_ z=>nomatch z⟩
 ·have hi:=no i d b;rw[zA (by simpa using hi),zF] at b;rw[zA (by omega)] at c
  cases q:ds[i]? with
  |none=>rw[q] at b;cases b
  |some d' =>
   rw[q] at b;cases b;obtain⟨v,h3,h4⟩:=h.get c q;refine⟨v,?_,?_⟩
   ·unfold start;rw[zA (by simp;omega),zF,h3];rfl
   ·cases m with
    |v=>exact h4
    |s =>
     rcases h4 with h4 | ⟨a,B,n,y,x,f,u,r⟩
     ·exact .inl h4
     ·exact .inr ⟨a,B,n,y,x,f,u,(show H a≠none by rw[f];exact λz=>nomatch z),r⟩
    |o=>exact absurd rfl (l .o (zR c))
 ·have hi:=no i _ E;rw[zA (by omega)] at c;exact absurd rfl (l .o (zR c))
section
variable {Pr:Program}{w:World}{K:Frag}{mg:Str->Option Value}{base:Heap}
theorem bW{x:Str}{st:Stmt}{N ps:List Str}{k:Nat}(Df:Def K mg x st)(S:bB N ps (aR st))
  (hb:∀(kV C pm:Value) (Z:Option Addr) (i ct:Value) (us:List Value),us.length=ps.length->bindArgs (PySem.W.fnOf x x (gY st) (eG st) (aR st) .none kV C pm Z i ct) ⟨us,[]⟩=pure (ps.zip us))
  (pm G:List Md) {R:RR}{b:MS} (Y:fZ R) (B:∀N H F as,R N H F as .non .non) (z:pm.length=ps.length:=by rfl) (U:(pm++G).length=N.length:=by rfl) (T:∀m∈pm,m≠.o:=by decide)
  (body:∀(f:Addr) (i:Value) (A:Around) (outer:List Env) (s:Shared) (H:Hp) (E:XK),bA k (A.deeper (envOfC x (aR st) s.heap.objs.size f i))->∀P,VSs ((iI CX0 Pr w K mg base N x (aR st) f i A outer s H E).nox) (pm++G) P R (eG st) b):
  Can Pr w K mg base x ps (k+1) (vSp K mg pm R (bC N.length b)):=by
 refine Df.can (k:=k) S hb (λI H Q E h=>?_) (λf i A outer s H I Q E L h=>?_)
 ·obtain⟨n,O,F,as,d,O',r,a,_⟩:=h;rw[a.len.1,z]
 ·obtain⟨n,O,F,as,d,O',r,a,e,q⟩:=h;refine⟨_,body f i A outer s H E L (Pt.all H),?_⟩;refine⟨_,O,F,as,r,J9 a U T,?_⟩;unfold bC at e
  cases eb:b (n.map some++List.replicate (N.length - n.length) none) O with
  |rt d' O2 =>
   rw[eb] at e;cases e
   exact λv u y j g l J=>q v u y j g.gr l (Y _ _ _ _ _ _ _ (λc X=>Classical.not_not.mp X) J)
  |nx ρ O2 =>
   rw[eb] at e;cases e
   exact λσ' u y j g l _=>q _ u y j g.gr l (B _ _ _ _)
  |bk _ _=>rw[eb] at e;cases e
  |ct _ _=>rw[eb] at e;cases e
  |ex _ _=>rw[eb] at e;cases e
  |no=>rw[eb] at e;cases e
end
section
variable {X:Cx}{md:List Md}{P:Pt}{R:RR}{k:Nat}{x:Str}{ps:List Str}{p pos:Pos}{e:Expr}{es:List Expr}{pm:List Md}{c:List D->ak->Res D}{ma:M (List D)}
def aH(c:List D->ak->Res D)(ma:M (List D)):M D:=λρ O=>(ma ρ O).bind λa b=>c a b
theorem Xr{K:Frag}{mg:Str->Option Value}(m:fZ R){E:XK}{σ:St}{H:Hp}{Q:VK}(q:tM K mg md P R (aH c ma) σ H Q):z9 (vSp K mg pm R c) [] E (tMA K mg md P pm ma) σ H Q:=by
 obtain⟨ρ,O,F,z,d,C,r,s,e,k⟩:=q;obtain⟨y,B,u,e⟩:=Res.bind_ok e;refine⟨ρ,_,F,z,_,_,r,s,u,λL T I b g h j=>?_⟩;dsimp only;rw[zH];exact⟨y,B,I,b,d,C,h,j,e,λv G J f n i hw=>k v G J f (g.trans n) i (m _ _ _ _ _ _ _ (λa l=>g.dm a l) hw)⟩
theorem Ka(i:fZ R)(C:Can X.prog X.w X.K X.mg X.base x ps k (vSp X.K X.mg pm R c))(d:bA k X.A)(h:AE X md P pm (e::es) ma)(f:Gl X x:=by rfl)(b:(x == ("__debug__":Str))=false:=by decide)
  (g:starEach (e::es) X.env=(false,eval e X.env)::starEach es X.env:=by exact di rfl) (a:(backTo pos (starEach es X.env)).any (·.1)=false:=by exact eU rfl):PE X (.Call (.Name x p) (e::es) [] pos) (tM X.K X.mg md P R (aH c ma)):=
 (Wx C d h f b g a).imp λ_ _ _ q=>Xr i q
end
section
variable {K:Frag}{mg:Str->Option Value}{H F:Hp}{as:List Addr}{O:ak}{Q:VK}{d:D}{p:Addr}{xs:List V}{ds:List D}
theorem cj{v:V}(r:RlO K mg O H F as)(k:∀f b c,Gr H F as b c as->RlO K mg O b c as->Ow K (λa=>H a=none) b c as f d->Q f b)(g:jD d=true)(hv:Rp K F as v d):Q v H:=k v H F Gr.refl r (.inl ⟨g,hv⟩)
theorem RlO.frF(r:RlO K mg O H F as)(a:H p=none):F p=none:=by
 cases q:F p with
 |none=>rfl
 |some o=>rw[r.fh p o q] at a;cases a
theorem sY(r:RlO K mg O H F as)(k:∀g c f,Gr H F as c f as->RlO K mg O c f as->Ow K (λa=>H a=none) c f as g (.lst ds)->Q g c)(b:H p=none)(h:Rps K F as xs ds):Q (.ref p) (upd H p (.lst xs)):=
 k _ _ F (Gr.lay b) (r.lay b) (.inr ⟨p,xs,ds,rfl,rfl,bN,r.frF b,λz=>r.all z b,b,h⟩)
theorem Kc(r:RlO K mg O H F as)(k:∀i f h,Gr H F as f h as->RlO K mg O f h as->Ow K (λa=>H a=none) f h as i (.tup ds)->Q i f)(c:H p=none)(j:Rps K F as xs ds):Q (.ref p) (upd H p (.tup xs)):=by
 have g:=r.frF c
 have ff:Same F (upd F p (.tup xs)):=λb u q=>by rw[aO (cN q g)];exact q
 exact k _ _ (upd F p (.tup xs)) ((Gr.lay c).frz c g) ((r.lay c).frz bN g (λz=>r.all z c) rfl) (.inl ⟨rfl,Rp.mkT (.inl bN) (Rps.mono ff (λ_ _ z=>z) _ j)⟩)
end
section
variable {X:Cx}
def Xu(K:Frag):R2:=λx y H Q=>∃l b c a,x=.ref l/\y=.ref b/\RdK K H l c/\RdK K H b a/\c.length+a.length<=sizeLine/\∀p,H p=none->Q (.ref p) (upd H p (.lst (c++a)))
theorem Xv:OpR X (binaryOp .Add) (Xu X.K):=by
 intro pins s σ H x y v u Q I g f h;obtain⟨l,b,G,E,rfl,rfl,i,j,L,q⟩:=h;cases g;cases f;obtain⟨z,c,n,r,e⟩:=i.ok I;obtain⟨F,a,J,d,B⟩:=j.ok I;have O:=r.length;have C:=d.length;refine PySem.P.add_list e B ?_ (by rw[zr,zr];omega)
 have m:c.toArray++a.toArray=(c++a).toArray:=by simp
 rw[m];exact⟨.ref _,_,I.lnew (t':=s.toks) (r.append d) (by rw[zn];omega),rfl,q _ I.fresh⟩
def Xw(K:Frag):R2:=λx y H Q=>∃l k a,x=.ref l/\y=.int k/\RdK K H l a/\-(2 ^ 63)<=k/\k<2 ^ 63/\a.length * k.toNat<=sizeLine /\
 ∀p,H p=none->Q (.ref p) (upd H p (.lst (List.replicate k.toNat a).flatten))
theorem Xx:OpR X (binaryOp .Mult) (Xw X.K):=by
 intro pins s σ H x y v u Q I G E h;obtain⟨l,k,O,rfl,rfl,L,h1,h2,B,q⟩:=h;cases G;obtain⟨t,rfl⟩:=E;obtain⟨z,b,n,r,e⟩:=L.ok I;have J:=r.length
 have hlen:b.toArray.size * k.toNat<=sizeLine:=by rw[zr,<-J];exact B
 have g:¬b.toArray.size * k.toNat>(2 ^ 63 - 1) / 8:=by
  have:(sizeLine:Nat)<=(2 ^ 63 - 1) / 8:=by decide
  omega
 have f:¬(!Builtin.List.listFitsIndex k)=true:=by
  rw[fitsIndex_both h1 h2];exact zh
 have c:¬Builtin.List.listTooLong (b.toArray.size * k.toNat)=true:=by
  rw[Jq hlen];exact zh
 have d:List.foldl (λj i=>j++i) #[] (List.replicate (if b.toArray.isEmpty=true then 0 else k.toNat) b.toArray)=(List.replicate k.toNat b).flatten.toArray:=by
  have f0:∀m:Nat,List.foldl (λj i=>j++i) #[] (List.replicate m b.toArray)=(List.replicate m b).flatten.toArray:=λm=>by
   have:=foldl_rep b m []
   rw[zD] at this;exact this
  rw[f0]
  cases b with
  |nil=>simp
  |cons a P=>rw[if_neg (by simp)]
 refine wpAny_binaryOp_repeat_ref (T:="list") (U:="int") (by decide) ⟨_,e,rfl⟩ (λC=>typeIs_int C k t) noFill_list_mul F.fills_int_mul F.slot_int_rmul repeat_list F.slot_int_index.lookup
  (call_meets F.slot_int_rmul (typeIs_int s k t) F.entry_int_rmul (F.args_int_rmul_2 _ _) (int___rmul___int_list k t l b.toArray n)
   ⟨e,rfl,⟨_,e,rfl⟩,call_meets F.slot_list_mul ⟨_,e,rfl⟩ F.entry_list_mul (F.args_list_mul_2 _ _) (AutoListH.list___mul___list_int_3 l b.toArray n k t f g c) ⟨e,?_⟩⟩)
 rw[d];exact⟨.ref _,_,I.lnew (t':=s.toks) (r.rep k.toNat) (by rw[len_rep,Nat.mul_comm];exact B),rfl,q _ I.fresh⟩
def aZ:D->D->Option D
 | .int i,.int j=>some (.int (i+j))
 | .int i,.bl k=>some (.int (i+b2i k))
 | .str a,.str b=>if a.length+b.length<=1000000 then some (.str (a++b)) else none
 | .lst a,.lst b=>if a.length+b.length<=1000000 then some (.lst (a++b)) else none
 | .tup a,.tup b=>if a.length+b.length<=1000000/\a≠[] then some (.tup (a++b)) else none
 | _,_=>none
instance (a:List D):Decidable (a≠[]):=match a with
 | []=>isFalse λh=>h rfl
 | _::_=>isTrue λh=>nomatch h
theorem cX:OpD X (binaryOp .Add) aZ:=by
 intro pins s σ H x y v u Q I g f h;obtain⟨O,F,R,P,B,d,r,m,l,e,k⟩:=h
 cases P with
 |int i =>
  cases(m.rp rfl).unI
  cases B with
  |int j =>
   cases(l.rp rfl).unI;cases e;exact T6 pins s σ H _ _ v u Q I g f ⟨i,j,rfl,rfl,cj r k rfl Rp.int⟩
  |bl j =>
   cases(l.rp rfl).unB;cases e;exact Ud pins s σ H _ _ v u Q I g f ⟨i,j,rfl,rfl,cj r k rfl Rp.int⟩
  | _=>cases e
 |str a =>
  cases(m.rp rfl).unS
  cases B with
  |str b =>
   cases(l.rp rfl).unS;simp only[aZ] at e;split at e
   ·rename_i c;cases e;refine Uq pins s σ H _ _ v u Q I g f ⟨S a,S b,rfl,rfl,by rw[fM,fM];exact f9 c,?_⟩;rw[WK];exact cj r k rfl Rp.str
   ·cases e
  | _=>cases e
 |lst a =>
  obtain⟨p,n,rfl,h1,h2⟩:=m.list r.fh
  cases B with
  |lst b =>
   obtain⟨E,C,rfl,h3,h4⟩:=l.list r.fh;simp only[aZ] at e;split at e
   ·rename_i c;cases e;exact Xv pins s σ H _ _ v u Q I g f ⟨p,E,n,C,rfl,rfl,h1,h3,by rw[h2.length,h4.length];exact f9 c,λq G=>sY r k G (Rps.append h4 h2)⟩
   ·cases e
  | _=>cases e
 |tup a =>
  obtain⟨p,n,rfl,h1,h2⟩:=(m.rp rfl).unT
  cases B with
  |tup b =>
   obtain⟨E,C,rfl,h3,h4⟩:=(l.rp rfl).unT;simp only[aZ] at e;split at e
   ·rename_i c;cases e
    have J:n≠[]:=λz=>c.2 (List.eq_nil_of_length_eq_zero (by rw[<-h2.length,z];rfl))
    refine Vt pins s σ H _ _ v u Q I g f ⟨p,E,n,C,rfl,rfl,Same.seqT r.fh h1,Same.seqT r.fh h3,J,by rw[h2.length,h4.length];exact f9 c.1,λz=>?_,λ_ q G=>Kc r k G (Rps.append h4 h2)⟩;have L:b=[]:=List.eq_nil_of_length_eq_zero (by rw[<-h4.length,z];rfl);subst L;rw[zH] at k;exact cj r k rfl (m.rp rfl)
   ·cases e
  | _=>cases e
 | _=>cases e
def gI(C:Int->Int->Bool)(f:Int->Int->Int):D->D->Option D
 | .int i,.int j=>if C i j=true then some (.int (f i j)) else none
 | _,_=>none
theorem Az{f:Value->Value->Sem Value}{a:Int->Int->Prop}{g:Int->Int->Int}{C:Int->Int->Bool}(h:OpR X f (rI a λi j=>.int (g i j)))(n:∀i j,C i j=true->a i j):OpD X f (gI C g):=by
 intro pins s σ H x y v u Q I c b z;obtain⟨O,F,G,E,B,d,r,m,l,e,k⟩:=z
 cases E with
 |int i =>
  cases(m.rp rfl).unI
  cases B with
  |int j =>
   cases(l.rp rfl).unI;simp only[gI] at e;split at e
   ·rename_i q;cases e;exact h pins s σ H _ _ v u Q I c b ⟨i,j,rfl,rfl,n i j q,cj r k rfl Rp.int⟩
   ·cases e
  | _=>cases e
 | _=>cases e
def dB:D->D->Option D:=gI (λ_ _=>true) λi j=>i - j
theorem j8:OpD X (binaryOp .Sub) dB:=by
 intro pins s σ H x y v u Q I b a g;obtain⟨O,F,m,l,h,d,r,f,c,e,k⟩:=g
 cases l with
 |int i =>
  cases(f.rp rfl).unI
  cases h with
  |int j =>
   cases(c.rp rfl).unI;cases e;exact T7 pins s σ H _ _ v u Q I b a ⟨i,j,rfl,rfl,cj r k rfl Rp.int⟩
  | _=>cases e
 | _=>cases e
def lV(i:Int):Bool:=decide (-(2 ^ 64)<i)&&decide (i<2 ^ 64)
theorem Ba{i:Int}(h:lV i=true):-(2 ^ 64)<i/\i<2 ^ 64:=by
 unfold lV at h;rw[zu,decide_eq_true_eq,decide_eq_true_eq] at h;exact h
def fJ:D->D->Option D
 | .int i,.int j=>if(lV i || lV j)=true then some (.int (i * j)) else none
 | .str l,.int n=>if -1000000<n/\n<1000000/\l.length * n.toNat<=16777216 then some (.str (List.replicate n.toNat l).flatten) else none
 | .lst l,.int n=>if -1000000<n/\n<1000000/\l.length * n.toNat<=1000000 then some (.lst (List.replicate n.toNat l).flatten) else none
 | _,_=>none
theorem Bb:OpD X (binaryOp .Mult) fJ:=by
 intro pins s σ H x y v u Q I c b h;obtain⟨O,F,G,E,m,d,r,g,f,e,k⟩:=h
 cases E with
 |int i =>
  cases(g.rp rfl).unI
  cases m with
  |int j =>
   cases(f.rp rfl).unI;simp only[fJ] at e;split at e
   ·rename_i a;cases e;refine T8 pins s σ H _ _ v u Q I c b ⟨i,j,rfl,rfl,?_,cj r k rfl Rp.int⟩;rw[Bool.or_eq_true] at a
    rcases a with z | z
    ·exact .inl (Ba z)
    ·exact .inr (Ba z)
   ·cases e
  | _=>cases e
 |str l =>
  cases(g.rp rfl).unS
  cases m with
  |int n =>
   cases(f.rp rfl).unI;simp only[fJ] at e;split at e
   ·rename_i a;cases e;exact W9 pins s σ H _ _ v u Q I c b ⟨l,n,rfl,rfl,a.1,a.2.1,a.2.2,cj r k rfl Rp.str⟩
   ·cases e
  | _=>cases e
 |lst l =>
  obtain⟨p,B,rfl,h1,h2⟩:=g.list r.fh
  cases m with
  |int n =>
   cases(f.rp rfl).unI;simp only[fJ] at e;split at e
   ·rename_i a;cases e;exact Xx pins s σ H _ _ v u Q I c b ⟨p,n,B,rfl,rfl,h1,by omega,by omega,by rw[h2.length];exact f9 a.2.2,λq C=>sY r k C (h2.rep _)⟩
   ·cases e
  | _=>cases e
 | _=>cases e
def bH:D->D->Option D:=gI (λ_ j=>decide (0<j)) λi j=>i % j
theorem dN:OpD X (binaryOp .Mod) bH:=Az Ua λ_ _ h=>jh h
def dG:D->D->Option D:=gI (λ_ j=>decide (0<j)&&decide (j<1073741824)) λi j=>i / j
theorem j9:OpD X (binaryOp .FloorDiv) dG:=Az T9 λi j h=>by
 rw[zu,decide_eq_true_eq,decide_eq_true_eq] at h;exact h
def eX:D->D->Option D:=gI (λi j=>decide (0<=j)&&(decide (j<=1000000)&&lV i)) λi j=>i ^ j.toNat
theorem sZ:OpD X (binaryOp .Pow) eX:=Az Ub λi j h=>by
 rw[zu,zu,decide_eq_true_eq,decide_eq_true_eq] at h
 have:=Ba h.2.2
 exact⟨h.1,h.2.1,by omega⟩
def mUn(g:D->Option D)(m:M D):M D:=λρ O=>(m ρ O).bind λd a=>match g (bG a d) with
 |some y=>.ok y a
 |none=>.no
def iM:D->Option D
 | .int i=>some (.int (-i))
 | _=>none
theorem tG{md:List Md}{P:Pt}{a:Expr}{b:Pos}{m:M D}(h:SE X md P a m):OE X md P (.UnaryOp .USub a b) (mUn iM m):=(T3 Uc h).imp λσ H Q q=>by
 obtain⟨ρ,O,F,n,d,B,r,s,e,k⟩:=q;obtain⟨x,u,l,e⟩:=Res.bind_ok e;refine⟨ρ,_,F,n,_,_,r,s,l,λv y z c j f g=>?_⟩
 cases ed:bG u x with
 |int i =>
  rw[ed] at e;cases e
  have:=Sv.lk g f
  rw[ed] at this;exact⟨i,(this.rp rfl).unI,k _ y z c j f (.inl ⟨rfl,Rp.int⟩)⟩
 | _=>rw[ed] at e;cases e
def gCI(f:Int->Int->Bool):D->D->Option D
 | .int i,.int j=>some (.bl (f i j))
 | _,_=>none
theorem Kd{f:Value->Value->Sem Value}{g:Int->Int->Bool}(h:OpR X f (rI0 λi j=>.bl (g i j))):OpD X f (gCI g):=by
 intro pins s σ H x y v u Q I b a m;obtain⟨O,F,z,q,n,d,r,l,c,e,k⟩:=m
 cases q with
 |int i =>
  cases(l.rp rfl).unI
  cases n with
  |int j =>
   cases(c.rp rfl).unI;cases e;exact h pins s σ H _ _ v u Q I b a ⟨i,j,rfl,rfl,cj r k rfl Rp.bl⟩
  | _=>cases e
 | _=>cases e
def gLt:D->D->Option D:=gCI λi j=>decide (i<j)
def gGt:D->D->Option D:=gCI λi j=>decide (j<i)
def gGe:D->D->Option D:=gCI λi j=>decide (j<=i)
def gLe:D->D->Option D
 | .int i,.int j=>some (.bl (decide (i<=j)))
 | .str a,.str b=>some (.bl (!decide (b<a)))
 | _,_=>none
theorem jH:OpD X (compareOp .LtE) gLe:=by
 intro pins s σ H x y v u Q I f c m;obtain⟨O,F,q,n,l,d,r,h,g,e,k⟩:=m
 cases n with
 |int i =>
  cases(h.rp rfl).unI
  cases l with
  |int j =>
   cases(g.rp rfl).unI;cases e;exact Ug pins s σ H _ _ v u Q I f c ⟨i,j,rfl,rfl,cj r k rfl Rp.bl⟩
  | _=>cases e
 |str a =>
  cases(h.rp rfl).unS
  cases l with
  |str b =>
   cases(g.rp rfl).unS;cases e;refine WM pins s σ H _ _ v u Q I f c ⟨S a,S b,rfl,rfl,?_⟩;rw[pq,pq];exact cj r k rfl Rp.bl
  | _=>cases e
 | _=>cases e
theorem nR:OpD X (compareOp .Lt) gLt:=Kd Ue
theorem pG:OpD X (compareOp .Gt) gGt:=Kd Uh
mutual
def toP:D->PyData
 | .non=>.none
 | .bl b=>.bool b
 | .int i=>.int i
 | .str l=>.str (S l)
 | .lst ds=>.list (fK ds)
 | .tup ds=>.tuple (fK ds)
 | .dic _ _=>.none
 | .ob _=>.none
def fK:List D->List PyData
 | []=>[]
 |d::ds=>toP d::fK ds
end
mutual
def dg:D->Bool
 | .lst ds=>kh ds
 | .tup ds=>kh ds
 | .dic _ _=>false
 | .ob _=>false
 | _=>true
def kh:List D->Bool
 | []=>true
 |d::ds=>dg d&&kh ds
end
section
variable {K:Frag}{F:Hp}{as:List Addr}
mutual
theorem Rp.rep:∀(d:D) {v:V},dg d=true->Rp K F as v d->Rep K F v (toP d)
 | .non,v,_,h=>by rw[toP,Rep];exact h.unN
 | .bl b,v,_,h=>by rw[toP,Rep];exact h.unB
 | .int i,v,_,h=>by rw[toP,Rep];exact h.unI
 | .str x,v,_,h=>by rw[toP,Rep];exact h.unS
 | .lst ds,v,hp,h=>by
  obtain⟨a,c,h1,h2,h3⟩:=h.unL;rw[toP,Rep];rw[dg] at hp;exact⟨a,c,h1,h2.sq,Rps.rep' ds hp h3⟩
 | .tup ds,v,hp,h=>by
  obtain⟨a,c,h1,h2,h3⟩:=h.unT;rw[toP,Rep];rw[dg] at hp;exact⟨a,c,h1,h2,Rps.rep' ds hp h3⟩
 | .dic _ _,v,hp,h=>by rw[dg] at hp;cases hp
 | .ob _,v,hp,h=>by rw[dg] at hp;cases hp
theorem Rps.rep':∀(ds:List D) {xs:List V},kh ds=true->Rps K F as xs ds->cJ K F xs (fK ds)
 | [],xs,_,h=>by rw[h.un0,fK];exact cJ.nil
 |d::ds,xs,hp,h=>by
  obtain⟨x,r,rfl,h2,h3⟩:=h.un;rw[kh,zu] at hp;rw[fK];exact cJ.cons (Rp.rep d hp.1 h2) (Rps.rep' ds hp.2 h3)
end
theorem Lk.rep{H:Hp}{d:D}{v:V}(h:Lk K H F as v d)(fh:Same F H)(b:dg d=true):Rep K H v (toP d):=by
 rcases h with h | ⟨a,c,f,rfl,rfl,h1,h2⟩
 ·exact Rep.mono fh _ (Rp.rep d b h)
 ·rw[dg] at b;rw[toP,Rep];exact⟨a,c,rfl,.inl (.inl h1),cJ.mono fh _ (Rps.rep' f b h2)⟩
end
def okE(d:D):Bool:=dg d&&okD (toP d)
def iQ(a b:D):Bool:=PyData.eqv (toP a) (toP b)
def gEq:D->D->Option D
 | .int i,.int j=>some (.bl (decide (i=j)))
 | .str a,.str b=>some (.bl (decide (a=b)))
 | .bl a,.bl b=>some (.bl (decide (a=b)))
 |a,b=>if(okE a&&okE b)=true then some (.bl (iQ a b)) else none
def gNe:D->D->Option D
 | .int i,.int j=>some (.bl (!decide (i=j)))
 | .str a,.str b=>some (.bl (!decide (a=b)))
 | .bl a,.bl b=>some (.bl (!decide (a=b)))
 |a,b=>if(okE a&&okE b)=true then some (.bl (!iQ a b)) else none
theorem Ke(a b:List Nat):decide (V.str (S a)=V.str (S b))=decide (a=b):=by
 by_cases h:a=b
 ·subst h;simp
 ·rw[zf h,zf];intro z;exact h (WL (V.str.inj z))
theorem Kf(a b:Int):decide (V.int a=V.int b)=decide (a=b):=by
 by_cases h:a=b
 ·subst h;simp
 ·rw[zf h,zf];intro z;exact h (V.int.inj z)
theorem Kg(a b:Bool):decide (V.bl a=V.bl b)=decide (a=b):=by
 cases a<;>cases b<;>rfl
theorem Xy{a b d:D}(h:gEq a b=some d):(∃i j,a=.int i/\b=.int j/\d=.bl (decide (i=j)))\/(∃i j,a=.str i/\b=.str j/\d=.bl (decide (i=j)))\/(∃i j,a=.bl i/\b=.bl j/\d=.bl (decide (i=j))) \/
  (okE a=true/\okE b=true/\d=.bl (iQ a b)):=by
 unfold gEq at h;split at h
 ·cases h;exact .inl ⟨_,_,rfl,rfl,rfl⟩
 ·cases h;exact .inr (.inl ⟨_,_,rfl,rfl,rfl⟩)
 ·cases h;exact .inr (.inr (.inl ⟨_,_,rfl,rfl,rfl⟩))
 ·split at h
  ·rename_i c;rw[zu] at c;cases h;exact .inr (.inr (.inr ⟨c.1,c.2,rfl⟩))
  ·cases h
theorem Xz{a b d:D}(h:gNe a b=some d):(∃i j,a=.int i/\b=.int j/\d=.bl (!decide (i=j)))\/(∃i j,a=.str i/\b=.str j/\d=.bl (!decide (i=j)))\/(∃i j,a=.bl i/\b=.bl j/\d=.bl (!decide (i=j))) \/
  (okE a=true/\okE b=true/\d=.bl (!iQ a b)):=by
 unfold gNe at h;split at h
 ·cases h;exact .inl ⟨_,_,rfl,rfl,rfl⟩
 ·cases h;exact .inr (.inl ⟨_,_,rfl,rfl,rfl⟩)
 ·cases h;exact .inr (.inr (.inl ⟨_,_,rfl,rfl,rfl⟩))
 ·split at h
  ·rename_i c;rw[zu] at c;cases h;exact .inr (.inr (.inr ⟨c.1,c.2,rfl⟩))
  ·cases h
theorem dC{k:Nat}(g:bA k X.A):OpD X (compareOp .Eq) gEq:=by
 intro pins s σ H x y v u Q I b a h;obtain⟨O,F,n,m,l,d,r,f,c,e,k⟩:=h
 rcases Xy e with⟨i,j,rfl,rfl,rfl⟩ | ⟨i,j,rfl,rfl,rfl⟩ | ⟨i,j,rfl,rfl,rfl⟩ | ⟨h1,h2,rfl⟩
 ·cases(f.rp rfl).unI;cases(c.rp rfl).unI;refine yW pins s σ H _ _ v u Q I b a ⟨rfl,?_⟩;rw[Kf];exact cj r k rfl Rp.bl
 ·cases(f.rp rfl).unS;cases(c.rp rfl).unS;refine yW pins s σ H _ _ v u Q I b a ⟨rfl,?_⟩;rw[Ke];exact cj r k rfl Rp.bl
 ·cases(f.rp rfl).unB;cases(c.rp rfl).unB;refine yW pins s σ H _ _ v u Q I b a ⟨rfl,?_⟩;rw[Kg];exact cj r k rfl Rp.bl
 ·unfold okE at h1 h2;rw[zu] at h1 h2;exact Wz g pins s σ H _ _ v u Q I b a ⟨toP m,toP l,f.rep r.fh h1.1,c.rep r.fh h2.1,h1.2,h2.2,cj r k rfl Rp.bl⟩
theorem pH{k:Nat}(g:bA k X.A):OpD X (compareOp .NotEq) gNe:=by
 intro pins s σ H x y v u Q I b a h;obtain⟨O,F,n,m,l,d,r,f,c,e,k⟩:=h
 rcases Xz e with⟨i,j,rfl,rfl,rfl⟩ | ⟨i,j,rfl,rfl,rfl⟩ | ⟨i,j,rfl,rfl,rfl⟩ | ⟨h1,h2,rfl⟩
 ·cases(f.rp rfl).unI;cases(c.rp rfl).unI;refine yX pins s σ H _ _ v u Q I b a ⟨rfl,?_⟩;rw[Kf];exact cj r k rfl Rp.bl
 ·cases(f.rp rfl).unS;cases(c.rp rfl).unS;refine yX pins s σ H _ _ v u Q I b a ⟨rfl,?_⟩;rw[Ke];exact cj r k rfl Rp.bl
 ·cases(f.rp rfl).unB;cases(c.rp rfl).unB;refine yX pins s σ H _ _ v u Q I b a ⟨rfl,?_⟩;rw[Kg];exact cj r k rfl Rp.bl
 ·unfold okE at h1 h2;rw[zu] at h1 h2;exact JM g pins s σ H _ _ v u Q I b a ⟨toP m,toP l,f.rep r.fh h1.1,c.rep r.fh h2.1,h1.2,h2.2,cj r k rfl Rp.bl⟩
def toV:D->V
 | .bl b=>.bl b
 | .int i=>.int i
 | .str l=>.str (S l)
 | _=>.non
def kj:D->Bool
 | .non=>true
 | .bl _=>true
 | .int _=>true
 | .str _=>true
 | _=>false
def eqF(x y:D):Bool:=eqV (toV x) (toV y)
theorem Rp.flat{K:Frag}{F:Hp}{as:List Addr}{v:V}{d:D}(h:Rp K F as v d)(a:kj d=true):v=toV d/\jB v=true:=by
 cases d with
 |non=>rw[h.unN];exact⟨rfl,rfl⟩
 |bl b=>rw[h.unB];exact⟨rfl,rfl⟩
 |int b=>rw[h.unI];exact⟨rfl,rfl⟩
 |str b=>rw[h.unS];exact⟨rfl,rfl⟩
 | _=>cases a
theorem Rps.flat{K:Frag}{F:Hp}{as:List Addr}:∀{ds:List D}{xs:List V},Rps K F as xs ds->ds.all kj=true->xs=ds.map toV/\xs.all jB=true
 | [],xs,h,_=>by rw[h.un0];exact⟨rfl,rfl⟩
 |d::ds,xs,h,hf=>by
  obtain⟨x,r,rfl,h2,h3⟩:=h.un;rw[List.all_cons,zu] at hf;obtain⟨f,c⟩:=h2.flat hf.1;obtain⟨b,a⟩:=Rps.flat h3 hf.2;exact⟨by rw[ze,<-f,<-b],by rw[List.all_cons,c,a];rfl⟩
def gIn(a:Bool):D->D->Option D
 | .str [c],.str l=>some (.bl (a ^^ decide (c∈l)))
 |x,.lst ds=>if(kj x&&ds.all kj)=true then some (.bl (a ^^ ds.any λy=>eqF y x)) else none
 |x,.tup ds=>if(kj x&&ds.all kj)=true then some (.bl (a ^^ ds.any λy=>eqF y x)) else none
 | _,_=>none
theorem XC{g:Bool}{a b d:D}(h:gIn g a b=some d):(∃c l,a=.str [c]/\b=.str l/\d=.bl (g ^^ decide (c∈l)))\/(∃ds,(b=.lst ds\/b=.tup ds)/\kj a=true/\ds.all kj=true/\d=.bl (g ^^ ds.any λy=>eqF y a)):=by
 unfold gIn at h;split at h
 ·cases h;exact .inl ⟨_,_,rfl,rfl,rfl⟩
 ·split at h
  ·rename_i f;rw[zu] at f;cases h;exact .inr ⟨_,.inl rfl,f.1,f.2,rfl⟩
  ·cases h
 ·split at h
  ·rename_i f;rw[zu] at f;cases h;exact .inr ⟨_,.inr rfl,f.1,f.2,rfl⟩
  ·cases h
 ·cases h
theorem XD{x:D}{ds:List D}:inV (toV x) (ds.map toV)=ds.any λy=>eqF y x:=by
 unfold inV;rw[List.any_map];rfl
theorem XF{K:Frag}{mg:Str->Option Value}{H F:Hp}{as:List Addr}{O:ak}{v:V}{b:D}{ds:List D}(r:RlO K mg O H F as)(a:Lk K H F as v b)(hb:b=.lst ds\/b=.tup ds):∃p xs,v=.ref p/\(SqL K H p xs\/SqT K H p xs)/\Rps K F as xs ds:=by
 rcases hb with rfl | rfl
 ·obtain⟨p,xs,e,h1,h2⟩:=a.list r.fh;exact⟨p,xs,e,.inl h1.sq,h2⟩
 ·obtain⟨p,xs,e,h1,h2⟩:=(a.rp rfl).unT;exact⟨p,xs,e,.inr (Same.seqT r.fh h1),h2⟩
theorem XH{d:D}(h:kj d=true):jD d=true:=by cases d<;>first | rfl | cases h
theorem XJ:OpD X (compareOp .In) (gIn false):=by
 intro pins s σ H x y v u Q I b a j;obtain⟨O,F,G,C,B,d,r,g,f,e,k⟩:=j
 rcases XC e with⟨c,l,rfl,rfl,rfl⟩ | ⟨E,i,h1,h2,rfl⟩
 ·cases(g.rp rfl).unS;cases(f.rp rfl).unS;refine WN pins s σ H _ _ v u Q I b a ⟨c,l,rfl,rfl,?_⟩;rw[Bool.false_xor] at k;exact cj r k rfl Rp.bl
 ·obtain⟨p,h,rfl,h3,h4⟩:=XF r f i;obtain⟨z,q⟩:=(g.rp (XH h1)).flat h1;obtain⟨n,m⟩:=h4.flat h2;refine VM pins s σ H _ _ v u Q I b a ⟨p,h,rfl,h3,q,m,?_⟩;rw[if_neg zh,z,n,XD];rw[Bool.false_xor] at k;exact cj r k rfl Rp.bl
def gIx:D->D->Option D
 | .lst ds,.int i=>atI ds i
 | .tup ds,.int i=>atI ds i
 | .str l,.int i=>if l.length<=1000000 then(atI l i).map λc=>.str [c] else none
 | _,_=>none
theorem Rps.atI{K:Frag}{F:Hp}{as:List Addr}{xs:List V}{ds:List D}{i:Int}{d:D}(h:Rps K F as xs ds)(e:atI ds i=some d):∃v,L2.atI xs i=some v/\Rp K F as v d:=by
 unfold L2.atI at e ⊢;rw[h.length]
 cases q:ixN ds.length i with
 |none=>rw[q] at e;cases e
 |some j =>
  rw[q] at e;exact h.get' e
def rDv(K:Frag)(mg:Str->Option Value)(g:D->D->Option D):R2:=λx y H Q=>∃O F a f c d,RlO K mg O H F a/\Lk K H F a x f/\Lk K H F a y c/\g f c=some d/\∀b,Rp K F a b d->Q b H
theorem XM:IxR X (rDv X.K X.mg gIx):=by
 intro value slice pins s σ H x y v u Q I g f E a;obtain⟨O,F,J,G,B,d,r,j,h,e,k⟩:=E
 cases G with
 |lst ds =>
  obtain⟨p,b,rfl,h1,h2⟩:=j.list r.fh
  cases B with
  |int i =>
   cases(h.rp rfl).unI;obtain⟨z,n,m⟩:=h2.atI e;exact Vz value slice pins s σ H _ _ v u Q I g f ⟨p,b,i,z,rfl,rfl,h1.sq,n,k z m⟩ a
  | _=>cases e
 |tup ds =>
  obtain⟨p,b,rfl,h1,h2⟩:=(j.rp rfl).unT
  cases B with
  |int i =>
   cases(h.rp rfl).unI;obtain⟨z,n,m⟩:=h2.atI e;exact VB value slice pins s σ H _ _ v u Q I g f ⟨p,b,i,z,rfl,rfl,Same.seqT r.fh h1,n,k z m⟩ a
  | _=>cases e
 |str l =>
  cases(j.rp rfl).unS
  cases B with
  |int i =>
   cases(h.rp rfl).unI;simp only[gIx] at e;split at e
   ·rename_i C
    cases q:L2.atI l i with
    |none=>rw[q] at e;cases e
    |some c =>
     rw[q] at e;cases e;exact VD value slice pins s σ H _ _ v u Q I g f ⟨S l,i,c,rfl,rfl,by rw[fM];exact f9 C,by rw[pq];exact q,k _ Rp.str⟩ a
   ·cases e
  | _=>cases e
 | _=>cases e
theorem bR{md:List Md}{P:Pt}{a b:Expr}{g:Pos}{l j:M D}(J:SE X md P a l)(hb:SE X md P b j)(G:rR b:=by intro _ _;rfl):VE X md P (.Subscript a b g) (ao gIx l j):=(Vv XM J hb G).imp λσ H Q h=>by
 obtain⟨ρ,O,F,T,d,O',r,sl,e,k⟩:=h;obtain⟨x,O1,R,e⟩:=Res.bind_ok e;obtain⟨y,Z,L,e⟩:=Res.bind_ok e;split at e
 ·rename_i Y I;cases e;refine⟨ρ,_,F,T,_,_,r,sl,R,λv H1 W i n B C=>?_⟩;refine⟨ρ,_,W,i,_,_,B,sl.step n,L,λu U q c m f E=>?_⟩;exact⟨_,q,c,_,_,_,f,Sv.lk (Sv.gr C m) f,Sv.lk E f,I,λz hw=>k z U q c (n.trans m) f hw⟩
 ·cases e
def tMO(K:Frag)(mg:Str->Option Value)(md:List Md)(P:Pt)(m:M (Option Int)):TO:=λσ H Q =>
 ∃ρ O F c b f,RlO K mg O H F c/\SlO K md P ρ σ H F c/\m ρ O=.ok b f/\∀d g a,Gr H F c d g a->RlO K mg f d g a->Q b d
def VO(X:Cx)(md:List Md)(P:Pt)(e:Option Expr)(m:M (Option Int)):Prop:=PO X e (tMO X.K X.mg md P m)
theorem PO.imp{e:Option Expr}{t t':TO}(h:PO X e t)(k:∀σ H Q,t' σ H Q->t σ H Q):PO X e t':=λpins s σ H Q I q=>h pins s σ H Q I (k σ H Q q)
def moN:M (Option Int):=λ_ O=>.ok none O
def moS(m:M D):M (Option Int):=λρ O=>(m ρ O).bind λd a=>match d with
 | .int i=>.ok (some i) a
 | _=>.no
theorem km{md:List Md}{P:Pt}:VO X md P none moN:=Vn.imp λσ H Q q=>by
 obtain⟨ρ,O,F,a,d,b,r,s,e,k⟩:=q;cases e;exact k H F a Gr.refl r
theorem d7{md:List Md}{P:Pt}{e:Expr}{m:M D}(h:VE X md P e m):VO X md P (some e) (moS m):=(Vo h).imp λσ H Q q=>by
 obtain⟨ρ,O,F,j,d,y,r,s,e,k⟩:=q;obtain⟨x,u,g,e⟩:=Res.bind_ok e
 cases x with
 |int i =>
  cases e;exact⟨ρ,_,F,j,_,_,r,s,g,λv l n a f b c=>⟨i,Rp.unI c,k l n a f b⟩⟩
 | _=>cases e
def gSl(d:D)(lo hi:Option Int):Option D:=match d with
 | .lst ds=>some (.lst (du ds lo hi))
 | .tup ds=>some (.tup (du ds lo hi))
 | .str l=>if l.length<=16777216 then some (.str (du l lo hi)) else none
 | _=>none
def XN(K:Frag)(mg:Str->Option Value):V->Option Int->Option Int->Hp->VK->Prop:=λx lo hi H Q=>∃O F b h d,RlO K mg O H F b/\Lk K H F b x h/\gSl h lo hi=some d /\
 ∀g c f,Gr H F b c f b->RlO K mg O c f b->Ow K (λa=>H a=none) c f b g d->Q g c
theorem Rps.cut{K:Frag}{F:Hp}{as:List Addr}{xs:List V}{ds:List D}(h:Rps K F as xs ds)(lo hi:Option Int):Rps K F as (jZ xs lo hi) (du ds lo hi):=by
 unfold jZ du;rw[h.length];exact(h.drop _).take _
theorem XQ:SlR X (XN X.K X.mg):=by
 intro pins s σ H x v vl c lo hi sl Q I f i g pu h;obtain⟨O,F,u,n,d,r,a,e,k⟩:=h
 cases n with
 |lst ds =>
  obtain⟨p,b,rfl,h1,h2⟩:=a.list r.fh;cases e;exact VJ pins s σ H _ v vl c lo hi sl Q I f i g pu ⟨p,b,rfl,h1.sq,λq j=>sY r k j (h2.cut lo hi)⟩
 |tup ds =>
  obtain⟨p,b,rfl,h1,h2⟩:=(a.rp rfl).unT;cases e;refine W3 X.K rfl pins s σ H _ v vl c lo hi sl Q I f i g pu ⟨p,b,rfl,Same.seqT r.fh h1,λz=>?_,λ_ q j=>Kc r k j (h2.cut lo hi)⟩
  have:du ds lo hi=ds:=by
   unfold du;rw[<-h2.length,z.1,z.2,List.drop_zero,Nat.sub_zero,h2.length,List.take_length]
  rw[this] at k;exact cj r k rfl (a.rp rfl)
 |str l =>
  cases(a.rp rfl).unS;simp only[gSl] at e;split at e
  ·rename_i m;cases e;exact W0 pins s σ H _ v vl c lo hi sl Q I f i g pu ⟨l,rfl,zM m (Nat.le_of_eq sizeLine_eq.symm),cj r k rfl Rp.str⟩
  ·cases e
 | _=>cases e
def mSl(m:M D)(lo hi:M (Option Int)):M D:=λρ O=>(m ρ O).bind λd c=>(lo ρ c).bind λl b=>(hi ρ b).bind λh a=>match gSl (bG a d) l h with
 |some y=>.ok y a
 |none=>.no
end
section
variable {X:Cx}{md:List Md}{P:Pt}{R:RR}
theorem gh{e:Expr}{lo hi:Option Expr}{L g:Pos}{m:M D}{ml u:M (Option Int)}(Z:SE X md P e m)(U:VO X md P lo ml)(W:VO X md P hi u):OE X md P (.Subscript e (.Slice lo hi none L) g) (mSl m ml u):=(Vp XQ Z U W).imp λσ H Q q=>by
 obtain⟨ρ,O,F,as,d,O',r,s,e,k⟩:=q;obtain⟨x,O1,e1,e⟩:=Res.bind_ok e;obtain⟨l,O2,e2,e⟩:=Res.bind_ok e;obtain⟨h,O3,e3,e⟩:=Res.bind_ok e;split at e
 ·rename_i y Y;cases e;refine⟨ρ,_,F,as,_,_,r,s,e1,λv H1 F1 j C I T=>?_⟩;refine⟨ρ,_,F1,j,_,_,I,s.step C,e2,λH2 F2 i B G=>?_⟩;have c:=C.trans B;refine⟨ρ,_,F2,i,_,_,G,s.step c,e3,λH3 F3 f z n=>?_⟩;have b:=c.trans z;exact⟨_,F3,f,_,_,n,Sv.lk (Sv.gr (Sv.gr T B) z) n,Y,λE H' F' g' J hw=>k E H' F' f (b.trans g') J (dD _ _ _ _ _ _ _ (λa ha=>b.dm a ha) hw)⟩
 ·cases e
def Lks(K:Frag)(H F:Hp)(as:List Addr):List V->List D->Prop
 | [],[]=>True
 |v::vs,d::ds=>Lk K H F as v d/\Lks K H F as vs ds
 | _,_=>False
theorem cY.lks{K:Frag}{mg:Str->Option Value}{O:ak}{H F:Hp}{as:List Addr}(r:RlO K mg O H F as):∀{ms:List Md}{vs:List V}{ds:List D},cY K H F as ms vs ds->Lks K H F as vs (ds.map (bG O))
 | [],[],[],_=>trivial
 |m::ms,v::vs,d::ds,h=>by
  refine⟨?_,cY.lks r h.2⟩
  have h1:Sv K H F as v d:=by
   cases m with
   |v=>exact .inl h.1
   |s=>exact h.1
   |o=>exact h.1
  exact h1.lk r
 | [],[],_::_,h=>h.elim
 | [],_::_,[],h=>h.elim
 | [],_::_,_::_,h=>h.elim
 | _::_,[],[],h=>h.elim
 | _::_,[],_::_,h=>h.elim
 | _::_,_::_,[],h=>h.elim
def rC(K:Frag)(mg:Str->Option Value)(g:List D->Option D):List V->Hp->VK->Prop:=λj H Q=>∃O F b i d,RlO K mg O H F b/\Lks K H F b j i/\g i=some d /\
 ∀h c f,Gr H F b c f b->RlO K mg O c f b->Ow K (λa=>H a=none) c f b h d->Q h c
abbrev iR(X:Cx)(f:Value)(g:List D->Option D):Prop:=gU X f (rC X.K X.mg g)
def aY(g:List D->Option D)(b:M (List D)):M D:=λρ O=>(b ρ O).bind λc a=>match g (c.map (bG a)) with
 |some d=>.ok d a
 |none=>.no
theorem vJ{K:Frag}{mg:Str->Option Value}{g:List D->Option D}{ms:List Md}{f:M (List D)}{σ:St}{H:Hp}{Q:VK}(q:tM K mg md P (rO K) (aY g f) σ H Q):tCB (rC K mg g) (tMA K mg md P ms f) σ H Q:=by
 obtain⟨ρ,O,F,z,d,L,r,s,e,k⟩:=q;obtain⟨I,J,x,e⟩:=Res.bind_ok e;split at e
 ·rename_i y m;cases e;refine⟨ρ,_,F,z,_,_,r,s,x,λG T C b h c l=>?_⟩;exact⟨_,C,b,_,_,c,l.lks c,m,λi B E u j hw=>k i B E b (h.trans u) j (dD _ _ _ _ _ _ _ (λa n=>h.dm a n) hw)⟩
 ·cases e
theorem dz{x:Str}{p a:Pos}{e:Expr}{es:List Expr}{f:String}{g:List D->Option D}{ms:List Md}{d:M (List D)}(m:iR X (.builtin f) g)(i:X.mg x=none)(n:AE X md P ms (e::es) d)(hv:bootBuiltins x=some (.builtin f):=by decide +kernel)(j:Gl X x:=by rfl)
  (h:x≠"__name__":=by decide) (c:(x == ("__debug__":Str))=false:=by decide) (l:starEach (e::es) X.env=(false,eval e X.env)::starEach es X.env:=by exact di rfl) (b:(backTo a (starEach es X.env)).any (·.1)=false:=by exact eU rfl):
  OE X md P (.Call (.Name x p) (e::es) [] a) (aY g d):=(Jh m j i hv n h c l b).imp λ_ _ _ q=>vJ q
theorem nT{x:Str}{p a:Pos}{e:Expr}{es:List Expr}{T:String}{g:List D->Option D}{ms:List Md}{d:M (List D)}(l:iR X (.type T) g)(h:X.mg x=none)(m:AE X md P ms (e::es) d)(hv:bootBuiltins x=some (.type T):=by decide +kernel)(i:Gl X x:=by rfl)
  (f:x≠"__name__":=by decide) (c:(x == ("__debug__":Str))=false:=by decide) (j:starEach (e::es) X.env=(false,eval e X.env)::starEach es X.env:=by exact di rfl) (b:(backTo a (starEach es X.env)).any (·.1)=false:=by exact eU rfl):
  OE X md P (.Call (.Name x p) (e::es) [] a) (aY g d):=(Vh l i h hv m f c j b).imp λ_ _ _ q=>vJ q
theorem Lks.one{K:Frag}{H F:Hp}{as:List Addr}{vs:List V}{d:D}(h:Lks K H F as vs [d]):∃v,vs=[v]/\Lk K H F as v d:=by
 cases vs with
 |nil=>exact h.elim
 |cons v vs =>
  cases vs with
  |nil=>exact⟨v,rfl,h.1⟩
  |cons u a=>exact h.2.elim
theorem Lks.two{K:Frag}{H F:Hp}{as:List Addr}{vs:List V}{d e:D}(h:Lks K H F as vs [d,e]):∃v u,vs=[v,u]/\Lk K H F as v d/\Lk K H F as u e:=by
 cases vs with
 |nil=>exact h.elim
 |cons v vs =>
  cases vs with
  |nil=>exact h.2.elim
  |cons u us =>
   cases us with
   |nil=>exact⟨v,u,rfl,h.1,h.2.1⟩
   |cons w a=>exact h.2.2.elim
def bT:List D->Option D
 | [.str l]=>if l.length<=1000000 then some (.int l.length) else none
 | [.lst ds]=>some (.int ds.length)
 | [.tup ds]=>some (.int ds.length)
 | _=>none
theorem d8:iR X (.builtin "len") bT:=by
 intro pins s σ H c f Q I g h;obtain⟨O,F,m,j,d,r,a,e,k⟩:=h;unfold bT at e;split at e
 ·rename_i l;obtain⟨v,rfl,b⟩:=a.one;split at e
  ·rename_i i;cases e;cases(b.rp rfl).unS;refine call_len pins s σ H _ f Q I g ⟨_,_,rfl,⟨by rw[fM];exact f9 i,rfl⟩,?_⟩;rw[fM];exact cj r k rfl Rp.int
  ·cases e
 ·rename_i l;obtain⟨v,rfl,b⟩:=a.one;cases e;obtain⟨p,c,rfl,h1,h2⟩:=b.list r.fh;refine call_len pins s σ H _ f Q I g ⟨_,_,rfl,.inl ⟨c,h1.sq,rfl⟩,?_⟩;rw[h2.length];exact cj r k rfl Rp.int
 ·rename_i l;obtain⟨v,rfl,b⟩:=a.one;cases e;obtain⟨p,c,rfl,h1,h2⟩:=(b.rp rfl).unT;refine call_len pins s σ H _ f Q I g ⟨_,_,rfl,.inr ⟨c,Same.seqT r.fh h1,rfl⟩,?_⟩;rw[h2.length];exact cj r k rfl Rp.int
 ·cases e
def pI:List D->Option D
 | [.int i,.int j]=>some (.int (if j>i then j else i))
 | _=>none
def XR:List D->Option D
 | [.int i,.int j]=>some (.int (if j<i then j else i))
 | _=>none
theorem XS(i:X.calm=true):iR X (.builtin "max") pI:=by
 intro pins s σ H j b Q I c h;obtain⟨O,F,m,l,d,r,a,e,k⟩:=h;unfold pI at e;split at e
 ·obtain⟨v,u,rfl,f,g⟩:=a.two;cases e;cases(f.rp rfl).unI;cases(g.rp rfl).unI;exact Ur i pins s σ H _ b Q I c ⟨_,_,rfl,cj r k rfl Rp.int⟩
 ·cases e
def pJ:List D->Option D
 | [.int i]=>some (.int i)
 | [.bl b]=>some (.int (if b then 1 else 0))
 | _=>none
theorem XX:iR X (.type "int") pJ:=by
 intro pins s σ H g c Q I f h;obtain⟨O,F,j,i,d,r,a,e,k⟩:=h;unfold pJ at e;split at e
 ·obtain⟨v,rfl,b⟩:=a.one;cases e;cases(b.rp rfl).unI;exact Iz pins s σ H _ c Q I f (.inl ⟨_,rfl,cj r k rfl Rp.int⟩)
 ·obtain⟨v,rfl,b⟩:=a.one;cases e;cases(b.rp rfl).unB;exact Iz pins s σ H _ c Q I f (.inr ⟨_,rfl,cj r k rfl Rp.int⟩)
 ·cases e
def gD:List D->Option D
 | [.lst ds]=>some (.lst ds)
 | [.tup ds]=>some (.lst ds)
 | _=>none
theorem vK:iR X (.type "list") gD:=by
 intro pins s σ H b g Q I i h;obtain⟨O,F,m,j,d,r,a,e,k⟩:=h;unfold gD at e;split at e
 ·obtain⟨v,rfl,c⟩:=a.one;cases e;obtain⟨p,b,rfl,h1,h2⟩:=c.list r.fh;exact Jo pins s σ H _ g Q I i ⟨p,b,rfl,.inl h1.sq,λl f=>sY r k f h2⟩
 ·obtain⟨v,rfl,c⟩:=a.one;cases e;obtain⟨p,b,rfl,h1,h2⟩:=(c.rp rfl).unT;exact Jo pins s σ H _ g Q I i ⟨p,b,rfl,.inr (Same.seqT r.fh h1),λl f=>sY r k f h2⟩
 ·cases e
def kE:List D->Option (List Bool)
 | []=>some []
 | .bl b::ds=>(kE ds).map (b :: ·)
 | _=>none
theorem Rps.bools{K:Frag}{F:Hp}{as:List Addr}:∀{ds:List D}{xs:List V}{bs:List Bool},Rps K F as xs ds->kE ds=some bs->xs=bs.map V.bl
 | [],xs,bs,h,e=>by cases e;rw[h.un0];rfl
 |d::ds,xs,bs,h,e=>by
  obtain⟨x,r,rfl,h2,h3⟩:=h.un
  cases d with
  |bl b =>
   unfold kE at e
   cases q:kE ds with
   |none=>rw[q] at e;cases e
   |some cs =>
    rw[q] at e;cases e;rw[h2.unB,Rps.bools h3 q];rfl
  | _=>cases e
def tH:List D->Option D
 | [.lst ds]=>(kE ds).map λbs=>.bl (bs.all id)
 | _=>none
theorem X3(i:X.calm=true):iR X (.builtin "all") tH:=by
 intro pins s σ H b c Q I f h;obtain⟨O,F,m,l,d,r,a,e,k⟩:=h;unfold tH at e;split at e
 ·rename_i j;obtain⟨v,rfl,g⟩:=a.one;obtain⟨p,b,rfl,h1,h2⟩:=g.list r.fh
  cases q:kE j with
  |none=>rw[q] at e;cases e
  |some bs =>
   rw[q] at e;cases e;refine WW i pins s σ H _ c Q I f ⟨p,bs,rfl,?_,cj r k rfl Rp.bl⟩;rw[<-h2.bools q];exact h1.sq
 ·cases e
def eY:List D->Option (List Int)
 | []=>some []
 | .int b::ds=>(eY ds).map (b :: ·)
 | _=>none
theorem Rps.ints{K:Frag}{F:Hp}{as:List Addr}:∀{ds:List D}{xs:List V}{bs:List Int},Rps K F as xs ds->eY ds=some bs->xs=bs.map V.int
 | [],xs,bs,h,e=>by cases e;rw[h.un0];rfl
 |d::ds,xs,bs,h,e=>by
  obtain⟨x,r,rfl,h2,h3⟩:=h.un
  cases d with
  |int b =>
   unfold eY at e
   cases q:eY ds with
   |none=>rw[q] at e;cases e
   |some cs =>
    rw[q] at e;cases e;rw[h2.unI,Rps.ints h3 q];rfl
  | _=>cases e
def pK:List D->Option D
 | [.lst ds]=>(eY ds).bind λns=>if(ns.all (λn=>decide (0<=n)&&decide (n<=1000000))&&decide (ns.length<=1000000))=true then some (.int ns.sum) else none
 | _=>none
theorem Kh(l:X.calm=true):iR X (.builtin "sum") pK:=by
 intro pins s σ H c f Q I g h;obtain⟨O,F,x,u,d,r,b,e,k⟩:=h;unfold pK at e;split at e
 ·rename_i m;obtain⟨v,rfl,i⟩:=b.one;obtain⟨p,c,rfl,h1,h2⟩:=i.list r.fh
  cases q:eY m with
  |none=>rw[q] at e;cases e
  |some ns =>
   rw[q] at e;dsimp only[Option.bind_some] at e;split at e
   ·rename_i a;rw[zu,decide_eq_true_eq,jd] at a;cases e;refine WX l pins s σ H _ f Q I g ⟨p,ns,rfl,?_,λn j=>?_,a.2,cj r k rfl Rp.int⟩
    ·rw[<-h2.ints q];exact h1.sq
    ·have:=a.1 n j
     rw[zu,decide_eq_true_eq,decide_eq_true_eq] at this;exact this
   ·cases e
 ·cases e
theorem d9:bootBuiltins "len" = some (.builtin "len"):=by decide +kernel
theorem Kl:bootBuiltins "max" = some (.builtin "max"):=by decide +kernel
theorem X4:bootBuiltins "all" = some (.builtin "all"):=by decide +kernel
theorem Km:bootBuiltins "sum" = some (.builtin "sum"):=by decide +kernel
theorem Bc:bootBuiltins "int" = some (.type "int"):=by decide +kernel
theorem Ko:bootBuiltins "str" = some (.type "str"):=by decide +kernel
theorem X5:bootBuiltins "bool" = some (.type "bool"):=by decide +kernel
theorem nU:bootBuiltins "list" = some (.type "list"):=by decide +kernel
theorem X6:bootBuiltins "tuple" = some (.type "tuple"):=by decide +kernel
def tyD:D->Option String
 | .non=>some "NoneType"
 | .bl _=>some "bool"
 | .int _=>some "int"
 | .str _=>some "str"
 | .lst _=>some "list"
 | .tup _=>some "tuple"
 | .dic _ _=>some "dict"
 | .ob _=>none
def dO(t n:String):Bool:=t == n || (t == "bool" && n == "int")
def eZ(n:String)(m:M D):M D:=λρ O=>(m ρ O).bind λd a=>match tyD (bG a d) with
 |some t=>.ok (.bl (dO t n)) a
 |none=>.no
def Bd:List String:=["str","int","bool","list","tuple","dict"]
theorem X7(K:Frag):∀d t,tyD d=some t->∀n∈Bd,PySem.W.kitOne K (.type t) (.type n)=some (dO t n):=by
 intro d t e n a;simp only[Bd,zo,List.not_mem_nil,or_false] at a
 cases d<;>cases e<;>rcases a with rfl | rfl | rfl | rfl | rfl | rfl<;>first | exact W6 K _ | kernel_rfl
theorem Lk.ty{K:Frag}{H F:Hp}{as:List Addr}{v:V}{d:D}{t:String}(h:Lk K H F as v d)(fh:Same F H)(e:tyD d=some t):TyQ K H v t:=by
 cases d with
 |non=>cases e;rw[(h.rp rfl).unN];exact .non
 |bl b=>cases e;rw[(h.rp rfl).unB];exact .bl _
 |int b=>cases e;rw[(h.rp rfl).unI];exact .int _
 |str b=>cases e;rw[(h.rp rfl).unS];exact .str _
 |lst c=>cases e;obtain⟨p,a,rfl,h1,h2⟩:=h.list fh;exact .lst h1.sq
 |tup c=>cases e;obtain⟨p,a,rfl,h1,h2⟩:=(h.rp rfl).unT;exact .tup (Same.seqT fh h1)
 |dic g f=>cases e;obtain⟨p,a,rfl,h1,h2⟩:=(h.rp rfl).unD;exact .dK (fh _ _ h1)
 |ob n=>cases e
theorem pL(n:String){T:Str}{a:Expr}{p b c:Pos}{m:M D}(G:X.mg "isinstance" = none)(J:X.mg T=none)(h:SE X md P a m)(hb:bootBuiltins T=some (.type n):=by decide +kernel)(E:n∈Bd:=by decide)(I:Gl X "isinstance":=by rfl)(l:Gl X T:=by rfl)
  (u:T≠"__name__":=by decide) (y:(T == ("__debug__":Str))=false:=by decide)
  (f:starEach [a,.Name T b] X.env=(false,eval a X.env)::starEach [.Name T b] X.env:=by exact di rfl) (i:starEach [.Name T b] X.env=(false,eval (.Name T b) X.env)::starEach [] X.env:=by rfl) (j:(backTo c (starEach [.Name T b] X.env)).any (·.1)=false:=by exact eU rfl):
  OE X md P (.Call (.Name "isinstance" p) [a,.Name T b] [] c) (eZ n m):=
 (Jh (W5 X.K) I G (by decide +kernel) (nA h (nA (RP (v:=.ty n) l J hb rfl u y) oZ i) f) (by decide) (by decide) f j).imp λσ H Q q=>by
  obtain⟨ρ,O,F,W,d,O',r,s,e,k⟩:=q;obtain⟨x,O1,U,e⟩:=Res.bind_ok e;split at e
  ·rename_i t B;cases e;refine⟨ρ,_,F,W,_,_,r,s,U,λv Y Z z L g C=>?_⟩;exact⟨v,n,t,_,rfl,Lk.ty (Sv.lk C g) g.fh B,X7 _ _ t B n E,k _ Y Z z L g (.inl ⟨rfl,Rp.bl⟩)⟩
  ·cases e
def pM(m:M D):M (List D):=λρ O=>(m ρ O).bind λd a=>match d with
 | .lst ds=>.ok ds a
 | _=>.no
def Be(m:M D):M (List D):=λρ O=>(m ρ O).bind λd a=>match d with
 | .tup ds=>.ok ds a
 | _=>.no
theorem X8{K:Frag}{mg:Str->Option Value}{H F:Hp}{as:List Addr}{a:Addr}{xs:List V}{ds:List D}(j:Rps K F as xs ds)(l:∀(c f:Hp) (b:List Addr),GrS P H F as c f b->(∃O,RlO K mg O c f b)->RdK K c a xs):nP K mg P (Itl K a) ds H F as:=by
 refine⟨λi d c f b g r e=>?_,λc f b g r=>⟨xs,(l c f b g r).sq,by rw[j.length];exact zb _⟩⟩;obtain⟨x,h1,h2⟩:=j.get' e;have q:=l c f b g r;refine⟨⟨xs,x,q.sq,h1⟩,λy m h=>?_⟩;obtain⟨rfl,h⟩:=h
 have:=h xs q.sq
 rw[h1] at this;cases this;exact⟨f,Gr.refl,λ_ r=>r,h2.grS g⟩
end
section
variable {X:Cx}{pins:List (Addr×Obj)}{σ:St}{H:Hp}{s:Shared}
end
section
variable {X:Cx}{elts:List Expr}{x1:Nat}{tpos:Pos}
end
def rW(K:Frag)(P:Pt):RR:=λ_ H F b v d=>Rp K F b v d\/∃a c f,v=.ref a/\d=.lst f/\H a=some (.lst c)/\a∉b/\P a/\Rps K F b c f
def WE(X:Cx)(md:List Md)(P:Pt)(e:Expr)(m:M D):Prop:=PE X e (tM X.K X.mg md P (rW X.K P) m)
section
variable {X:Cx}{md:List Md}{P:Pt}{R:RR}
theorem pN{e:Expr}{m:M D}(h:VE X md P e m):WE X md P e m:=h.imp λσ H Q q=>by
 obtain⟨ρ,O,F,f,d,i,r,s,e,k⟩:=q;exact⟨ρ,O,F,f,d,i,r,s,e,λv j l a g b c=>k v j l a g b (.inl c)⟩
theorem Bf(i:Nat){x:Str}{a:Pos}(f:md[i]?=some .s:=by rfl)(hN:X.N[i]?=some x:=by rfl)(c:Vis X.env.scope x:=by first | exact Or.inl rfl | exact Or.inr (Or.inl rfl) | exact Or.inr (Or.inr rfl))
  (hd:(x == ("__debug__":Str))=false:=by decide) (b:(x == ("__classdict__":Str))=false:=by decide):WE X md P (.Name x a) (aa i):=by
 refine(lL (i:=i) hN c hd b).imp λσ H Q h=>?_
 obtain⟨ρ,O,F,j,d,l,r,s,e,k⟩:=h;obtain⟨g,rfl⟩:=vG e;obtain⟨v,h2,h3⟩:=s.sl i .s d f g;exact⟨v,h2,k v H F j Gr.refl r h3⟩
theorem Kq{K:Frag}{mg:Str->Option Value}{N:Addr->Prop}{H F:Hp}{as:List Addr}{v:V}{ds:List D}(hv:rW K P N H F as v (.lst ds)):
  ∃a xs,v=.ref a/\Rps K F as xs ds/\∀(c d:Hp) (b:List Addr),GrS P H F as c d b->(∃O,RlO K mg O c d b)->RdK K c a xs:=by
 rcases hv with hv | ⟨a,xs,l,rfl,e,j,i,h,f⟩
 ·obtain⟨a,xs,rfl,h1,h2⟩:=hv.unL;exact⟨a,xs,rfl,h2,λc d b g ⟨O,r⟩=>(h1.mono g.ff).mono r.fh⟩
 ·cases e;exact⟨a,xs,rfl,f,λc d b g _=>.inl (.inl (g.fr _ _ h j i rfl))⟩
theorem Kr{j e:Expr}{m:M D}(h:WE X md P e m):VI X md P j e (pM m):=(vf h).imp λσ H Q q=>by
 obtain⟨ρ,O,F,x,y,B,r,s,e,k⟩:=q;obtain⟨d,z,u,e⟩:=Res.bind_ok e
 cases d with
 |lst es =>
  cases e;refine⟨ρ,_,F,x,_,_,r,s,u,λv f g b n c l=>?_⟩;obtain⟨a,i,rfl,h1,h2⟩:=Kq (mg:=X.mg) l;exact⟨a,rfl,⟨i,(h2 f g b GrS.refl ⟨_,c⟩).sq⟩,k _ f g b n c (X8 h1 h2)⟩
 | _=>cases e
theorem Ks{E e:Expr}{m:M D}(h:VE X md P e m):VI X md P E e (Be m):=(Tw h).imp λσ H Q q=>by
 obtain⟨ρ,O,F,L,T,W,r,s,e,k⟩:=q;obtain⟨d,U,J,e⟩:=Res.bind_ok e
 cases d with
 |tup es =>
  cases e;refine⟨ρ,_,F,L,_,_,r,s,J,λv z B j I C G=>?_⟩;obtain⟨a,l,rfl,h1,h2⟩:=Rp.unT G
  have u:∀(c f:Hp) (b:List Addr),GrS P z B j c f b->(∃O,RlO X.K X.mg O c f b)->SqT X.K c a l:=λc f b g ⟨O,r⟩=>Same.seqT r.fh (Same.seqT g.ff h1)
  refine⟨a,rfl,⟨l,u z B j GrS.refl ⟨_,C⟩⟩,k _ z B j I C ⟨λi d c f b g r e=>?_,λc f b g r=>⟨l,u c f b g r,by rw[h2.length];exact zb _⟩⟩⟩;obtain⟨x,h3,h4⟩:=h2.get' e;have q:=u c f b g r;refine⟨⟨l,x,q,h3⟩,λy Y n=>?_⟩;obtain⟨rfl,n⟩:=n
  have:=n l q
  rw[h3] at this;cases this;exact⟨f,Gr.refl,λ_ r=>r,h4.grS g⟩
 | _=>cases e
def lW(l:List Nat):List D:=l.map λc=>.str [c]
def Bg(m:M D):M (List D):=λρ O=>(m ρ O).bind λd a=>match d with
 | .str l=>if ascii l=true then .ok (lW l) a else .no
 | _=>.no
theorem Bh{K:Frag}{mg:Str->Option Value}{J:It}{ds:List D}{H F:Hp}{as:List Addr}(h1:∀(i:Nat) (d:D) (a:Hp),ds[i]?=some d->J.go i a/\∀x b,J.yld i a x b->b=a/\∀K F as,Rp K F as x d)(h2:∀a,J.stop ds.length a):nP K mg P J ds H F as :=
 ⟨λi d a f g _ _ e=>⟨(h1 i d a e).1,λx b y=>by
  obtain⟨rfl,c⟩:=(h1 i d a e).2 x b y
  exact⟨f,Gr.refl,λ_ r=>r,c _ _ _⟩⟩,λa _ _ _ _=>h2 a⟩
theorem Ku{g e:Expr}{m:M D}(h:SE X md P e m):VI X md P g e (Bg m):=(WT h).imp λσ H Q q=>by
 obtain⟨ρ,O,F,B,I,T,r,s,e,k⟩:=q;obtain⟨d,L,a,e⟩:=Res.bind_ok e
 cases d with
 |str l =>
  dsimp only at e;split at e
  ·rename_i u;cases e;refine⟨ρ,_,F,B,_,_,r,s,a,λv E G b z j n=>?_⟩;refine⟨l,(Sv.rp n rfl).unS,u,k _ E G b z j (Bh (λi d C e=>?_) λC=>by simp[lW,Its])⟩;unfold lW at e;rw[zF] at e
   cases q:l[i]? with
   |none=>rw[q] at e;cases e
   |some c =>
    rw[q] at e;cases e;refine⟨(zl.mp q).1,λx U y=>?_⟩;obtain⟨a,J,f,rfl⟩:=y;rw[q] at f;cases f;exact⟨a,λ_ _ _=>Rp.str⟩
  ·cases e
 | _=>cases e
def cH(lo:Int)(n:Nat):List D:=(List.range n).map λ(k:Nat)=>.int (lo+(k:Int))
def gG(m:M (List D)):M (List D):=λρ O=>(m ρ O).bind λa b=>match a with
 | [.int j]=>if j<=1000000000/\-1000000000<=j then .ok (cH 0 j.toNat) b else .no
 | _=>.no
def lX(m:M (List D)):M (List D):=λρ O=>(m ρ O).bind λa b=>match a with
 | [.int i,.int j]=>if(i<=1000000000/\-1000000000<=i)/\j<=1000000000/\-1000000000<=j then .ok (cH i (j - i).toNat) b else .no
 | _=>.no
theorem Kv{K:Frag}{mg:Str->Option Value}{lo:Int}{n:Nat}{H F:Hp}{as:List Addr}:nP K mg P (Itr lo n) (cH lo n) H F as:=Bh (λi d b e=>by
 unfold cH at e;rw[zF] at e
 by_cases hi:i<n
 ·rw[List.getElem?_range hi] at e;cases e;refine⟨hi,λx c y=>?_⟩;obtain⟨a,rfl⟩:=y;exact⟨a,λ_ _ _=>Rp.int⟩
 ·rw[List.getElem?_eq_none (by simpa using hi)] at e
  cases e) λb=>by simp[cH,Itr]
theorem cY.one{K:Frag}{H F:Hp}{as:List Addr}{m:Md}{vs:List V}{d:D}(h:cY K H F as [m] vs [d]):∃v,vs=[v]/\rA K m (λ_=>True) H F as v d:=by
 cases vs with
 |nil=>exact h.elim
 |cons v vs =>
  cases vs with
  |nil=>exact⟨v,rfl,h.1⟩
  |cons u a=>exact h.2.elim
theorem cY.two{K:Frag}{H F:Hp}{as:List Addr}{m n:Md}{vs:List V}{d e:D}(h:cY K H F as [m,n] vs [d,e]):∃v u,vs=[v,u]/\rA K m (λ_=>True) H F as v d/\rA K n (λ_=>True) H F as u e:=by
 cases vs with
 |nil=>exact h.elim
 |cons v vs =>
  cases vs with
  |nil=>exact h.2.elim
  |cons u us =>
   cases us with
   |nil=>exact⟨v,u,rfl,h.1,h.2.1⟩
   |cons w a=>exact h.2.2.elim
theorem tK{f a:Expr}{p b:Pos}{m:M (List D)}(l:X.mg "range" = none)(u:AE X md P [.s] [a] m)(n:Gl X "range":=by rfl)(i:starEach [a] X.env=[(false,eval a X.env)]:=by exact sH rfl):VI X md P f (.Call (.Name "range" p) [a] [] b) (gG m):=(TJ n l u i).imp λσ H Q q=>by
 obtain⟨ρ,O,F,z,J,T,r,s,e,k⟩:=q;obtain⟨I,L,y,e⟩:=Res.bind_ok e;split at e
 ·rename_i j;split at e
  ·rename_i G;cases e;refine⟨ρ,_,F,z,_,_,r,s,y,λE B C d x g h=>?_⟩;obtain⟨v,rfl,c⟩:=h.one
   have:=(Sv.rp c rfl).unI
   subst this;exact⟨j,rfl,by omega,by omega,k _ B C d x g Kv⟩
  ·cases e
 ·cases e
theorem Kw{h a b:Expr}{p c:Pos}{m:M (List D)}(z:X.mg "range" = none)(C:AE X md P [.s,.s] [a,b] m)(B:Gl X "range":=by rfl)(y:starEach [a,b] X.env=[(false,eval a X.env),(false,eval b X.env)]:=by exact Xa rfl rfl)(f:starEach [b] X.env=[(false,eval b X.env)]:=by exact sH rfl):
  VI X md P h (.Call (.Name "range" p) [a,b] [] c) (lX m):=(TQ B z C y f).imp λσ H Q q=>by
 obtain⟨ρ,O,F,L,ds,O',r,s,e,k⟩:=q;obtain⟨Z,O1,J,e⟩:=Res.bind_ok e;split at e
 ·rename_i i j;split at e
  ·rename_i Y;cases e;refine⟨ρ,_,F,L,_,_,r,s,J,λW T U g E l n=>?_⟩;obtain⟨v,u,rfl,d,x⟩:=n.two;have I:=(Sv.rp d rfl).unI;have G:=(Sv.rp x rfl).unI;subst I G;exact⟨i,j,rfl,⟨by omega,by omega,by omega,by omega⟩,k _ T U g E l Kv⟩
  ·cases e
 ·cases e
def tL:Nat->List D->List D
 | _,[]=>[]
 |k,d::ds=>.tup [.int k,d]::tL (k+1) ds
variable {elts:List Expr}{x1:Nat}{tpos:Pos}
def vL:List D->Option (List (List Nat))
 | []=>some []
 | .str l::ds=>(vL ds).map (l :: ·)
 | _=>none
def Yb(m:M D):M D:=λρ O=>(m ρ O).bind λd a=>match bG a d with
 | .lst ds=>match vL ds with
  |some ls=>if(ls.map List.length).sum<=1000000 then .ok (.str ls.flatten) a else .no
  |none=>.no
 | _=>.no
def Yc(mo m:M D):M D:=λρ O=>(mo ρ O).bind λa d=>(m ρ d).bind λb c=>match a,b with
 | .str l,.str n=>.ok (.bl (decide (l.take n.length=n))) c
 | _,_=>.no
end
section
variable {K:Frag}{mg:Str->Option Value}{md:List Md}{P:Pt}{ρ:az}{σ:St}{H F:Hp}{as:List Addr}{O:ak}{i:Nat}{a:Addr}{xs xs':List V}{ds ds':List D}
theorem SlO.own(s:SlO K md P ρ σ H F as)(c:md[i]?=some .o)(b:ρ[i]?=some (some (.lst ds))):∃a xs,σ[i]?=some (some (.ref a))/\H a=some (.lst xs)/\F a=none/\a∉as/\¬P a/\Rps K F as xs ds:=by
 obtain⟨v,h1,h2⟩:=s.sl i .o _ c b
 rcases h2 with⟨h2,_⟩ | ⟨a,xs,m,rfl,j,h,l,g,f,d⟩
 ·cases h2
 ·cases j;exact⟨a,xs,h1,h,l,g,f,d⟩
theorem SlO.mut(s:SlO K md P ρ σ H F as)(G:md[i]?=some .o)(y:ρ[i]?=some (some (.lst ds)))(u:σ[i]?=some (some (.ref a)))(hF:F a=none)(ha:a∉as)(Y:¬P a)(r:Rps K F as xs' ds'):SlO K md P (ρ.set i (some (.lst ds'))) σ (upd H a (.lst xs')) F as:=by
 have hi:i<md.length:=(zl.mp G).1;refine⟨s.len,by rw[zX];exact s.len',λc p=>?_,λj m d I n=>?_,λj k c b fs h1 h2 h3 h4 h5 h6=>?_,λx hx=>?_⟩
 ·have:=s.pd c p
  unfold upd
  split
  ·exact λz=>nomatch z
  ·exact this
 ·by_cases h:i=j
  ·subst h;rw[G] at I;cases I;rw[zN (by rw[s.len'];exact hi)] at n;cases n;exact⟨_,u,.inr ⟨a,xs',ds',rfl,rfl,bN,hF,ha,Y,r⟩⟩
  ·rw[zm h] at n;obtain⟨v,X,g⟩:=s.sl j m d I n;refine⟨v,X,?_⟩
   cases m with
   |v=>exact g
   |s =>
    rcases g with g | ⟨c,R,b,E,C,Q,L,B,J⟩
    ·exact .inl g
    ·exact .inr ⟨c,R,b,E,C,by rw[aO (λz=>Y (by rw[<-z];exact B))];exact Q,L,B,J⟩
   |o =>
    rcases g with g | ⟨c,R,b,E,C,Q,Z,L,B,J⟩
    ·exact .inl g
    ·refine .inr ⟨c,R,b,E,C,?_,Z,L,B,J⟩;rw[aO]
     ·exact Q
     ·intro z;subst z E C;exact h (s.inj i j c ds b G I y n u X)
 ·have f:∀k b,(ρ.set i (some (.lst ds')))[k]?=some (some (D.lst b))->∃l,ρ[k]?=some (some (D.lst l)):=λk b q=>by
   by_cases h:i=k
   ·subst h;exact⟨ds,y⟩
   ·rw[zm h] at q;exact⟨b,q⟩
  obtain⟨l,q3⟩:=f j b h3;obtain⟨W,q4⟩:=f k fs h4;exact s.inj j k c l W h1 h2 q3 q4 h5 h6
 ·obtain⟨T,p2,p3⟩:=s.pin x hx
  have U:i≠x.1:=λz=>by rw[<-z,G] at T;cases T
  exact⟨T,by rw[zm U];exact p2,p3⟩
theorem Bj{xs:List V}(d:H a=some (.lst xs))(b:¬P a){o:HO}:GrS P H F as (upd H a o) F as :=
 ⟨λ_ _ _ _ _ _=>rfl,Same.refl F,⟨[],by simp,λ_ h=>nomatch h⟩,λc u p e _ _=>by rw[aO (λz=>b (by rw[<-z];exact p))];exact e,λc e=>by
  by_cases h:c=a
  ·subst h;rw[bN] at e;cases e
  ·rwa [aO h] at e,λc f u e=>by rw[aO (λz=>by rw[z,d] at e;cases e)];exact e⟩
theorem RlO.mut(r:RlO K mg O H F as)(g:F a=none)(f:a∉as){o:HO}:RlO K mg O (upd H a o) F as:=by
 refine⟨λc u e=>?_,r.fd,r.nd,r.len,r.fa,λn c u b d=>(r.ob n c u b d).keep (aO ?_) (Same.refl F) λ_ _ h=>h⟩
 ·rw[aO (cN e g)];exact r.fh c u e
 ·intro z;subst z;exact f (zR b)
end
section
variable {X:Cx}{md:List Md}{P:Pt}{R:RR}
def dq(i:Nat)(m:M D):MS:=λρ O=>match m ρ O with
 | .ok d O'=>match ρ[i]? with
  |some (some (.lst ds))=>if ds.length<1000000 then .nx (ρ.set i (some (.lst (ds++[d])))) O' else .no
  | _=>.no
 | .ex x O'=>.ex x O'
 | .no=>.no
theorem Yd{i:Nat}{m:M D}{ρ:az}{O:ak}(K:Frag)(mg:Str->Option Value){D:Ends}{H F:Hp}{as:List Addr}(k:g8 K mg md P R D H F as (dq i m ρ O)):
  ∃d a ds,m ρ O=.ok d a/\ρ[i]?=some (some (.lst ds))/\ds.length<1000000/\g8 K mg md P R D H F as (.nx (ρ.set i (some (.lst (ds++[d])))) a):=by
 unfold dq at k;split at k
 ·rename_i d a e;split at k
  ·rename_i ds c;split at k
   ·rename_i b;exact⟨d,a,ds,e,c,b,k⟩
   ·exact False.elim k
  ·exact False.elim k
 ·exact False.elim k
 ·exact False.elim k
theorem lY(i:Nat){x:Str}{p apos b l:Pos}{e:Expr}{m:M D}(h:VE X md P e m)(Q:md[i]?=some .o:=by rfl)(hN:X.N[i]?=some x:=by rfl)(hv:Vis X.env.scope x:=by first | exact Or.inl rfl | exact Or.inr (Or.inl rfl) | exact Or.inr (Or.inr rfl))
  (hd:(x == ("__debug__":Str))=false:=by decide) (C:(x == ("__classdict__":Str))=false:=by decide)
  (g:attributeBase (.Name x p) "append" X.env (eval (.Name x p) X.env)=eval (.Name x p) X.env:=by rfl)
  (n:((backTo b (starEach [e] X.env)).all (λx=>!x.1)&&(backToKw b (keywordEach [] X.env)).all (λx=>x.1.isSome)&&decide ([e].length+([]:List Keyword).length+(if([]:List Keyword).isEmpty then 0 else 1)<30))=true:=by rfl)
  (f:(apos.endLine == b.line)=true:=by rfl) (L:starEach [e] X.env=(false,eval e X.env)::starEach [] X.env:=by exact di rfl) (c:(backTo b (starEach [] X.env)).any (·.1)=false:=by exact eU rfl)
  (B:swapsWith (.Call (.Attribute (.Name x p) "append" apos) [e] [] b) none l.line X.env=pure false:=by rfl):
  VS X md P R (.Expr (.Call (.Attribute (.Name x p) "append" apos) [e] [] b) l) (dq i m):=
 (rH (Af PySem.F.plainAttrs_list PySem.F.slot_list_append PySem.F.type_list_append Jr (lL (i:=i) hN hv hd C) (nA h oZ L) g n f L c) B).imp λD σ H q=>by
  obtain⟨ρ,O,F,as,r,s,k⟩:=q;obtain⟨d,O',ds,e,W,hz,k⟩:=Yd X.K X.mg k;obtain⟨a,G,h1,h2,h3,h4,U,T⟩:=s.own Q W;refine⟨_,h1,.inl ⟨rfl,G,.inl (.inl h2)⟩,ρ,O,F,as,d,O',r,s,e,λy H1 Y E j r1 hy=>?_⟩;have Z:=s.step j
  have hn:H a≠none:=by rw[h2];exact λz=>nomatch z
  have u:=j.fr _ _ h2 h4 rfl
  have J:Y a=none:=by rw[j.fz a _ h2 h4 rfl];exact h3
  have I:=j.out h4 hn
  have hn1:H1 a≠none:=by rw[u];exact λz=>nomatch z
  exact⟨a,G,y,rfl,rfl,u,by rw[T.length];exact zJ hz (by decide),k σ _ Y E (j.toS.trans (Bj u U)) (r1.mut J I) (Z.mut Q W h1 J I U ((T.gr j).snoc hy))⟩
def Ye(K:Frag):V->List V->Hp->VK->Prop:=λx d H Q=>∃l b c a,x=.ref l/\d=[.ref b]/\H l=some (.lst c)/\RdK K H b a/\c.length+a.length<=sizeLine/\Q .non (upd H l (.lst (c++a)))
theorem Yg:MtM X "list.extend" (Ye X.K):=by
 intro pins s σ H x T v U Q I j m h;obtain⟨l,b,O,J,rfl,rfl,i,C,W,q⟩:=h;cases j;obtain⟨u,rfl,y⟩:=m.one;cases y;obtain⟨z,c,n,r,Y,e⟩:=I.lstM i;obtain⟨L,a,B,g,E⟩:=C.ok I;have G:=g.length
 have f:c.toArray.size+a.toArray.size<=sizeLine:=by rw[zr,zr];omega
 have d:¬(!c.toArray.isEmpty&&Builtin.List.listTooLong (c.toArray.size+a.toArray.size))=true:=by
  rw[Jq f,Bool.and_false];exact zh
 refine call_meets F.slot_list_extend ⟨_,e,rfl⟩ F.entry_list_extend (F.args_list_extend_2 _ _)
  (AutoSeq1.list_extend_list_list_0 l c.toArray n b a.toArray B d (by rw[zr];omega) (by omega)) ⟨e,E,?_⟩
 refine⟨.non,_,I.lset (its':=c++a) i e (by simp) (r.append g) ?_,rfl,q⟩;rw[zn];omega
def iT(i:Nat)(m:M D):MS:=λρ O=>match m ρ O with
 | .ok d O'=>match ρ[i]?,bG O' d with
  |some (some (.lst ds)),.lst es=>if ds.length+es.length<=1000000 then .nx (ρ.set i (some (.lst (ds++es)))) O' else .no
  | _,_=>.no
 | .ex x O'=>.ex x O'
 | .no=>.no
theorem Yh{i:Nat}{m:M D}{ρ:az}{O:ak}(K:Frag)(mg:Str->Option Value){D:Ends}{H F:Hp}{as:List Addr}(k:g8 K mg md P R D H F as (iT i m ρ O)):
  ∃d a ds es,m ρ O=.ok d a/\ρ[i]?=some (some (.lst ds))/\bG a d=.lst es/\ds.length+es.length<=1000000/\g8 K mg md P R D H F as (.nx (ρ.set i (some (.lst (ds++es)))) a):=by
 unfold iT at k;split at k
 ·rename_i d a e;split at k
  ·rename_i ds es f c;split at k
   ·rename_i b;exact⟨d,a,ds,es,e,f,c,b,k⟩
   ·exact False.elim k
  ·exact False.elim k
 ·exact False.elim k
 ·exact False.elim k
theorem Ky(i:Nat){x:Str}{p apos c n:Pos}{e:Expr}{m:M D}(h:SE X md P e m)(W:md[i]?=some .o:=by rfl)(hN:X.N[i]?=some x:=by rfl)(hv:Vis X.env.scope x:=by first | exact Or.inl rfl | exact Or.inr (Or.inl rfl) | exact Or.inr (Or.inr rfl))
  (hd:(x == ("__debug__":Str))=false:=by decide) (G:(x == ("__classdict__":Str))=false:=by decide)
  (j:attributeBase (.Name x p) "extend" X.env (eval (.Name x p) X.env)=eval (.Name x p) X.env:=by rfl)
  (u:((backTo c (starEach [e] X.env)).all (λx=>!x.1)&&(backToKw c (keywordEach [] X.env)).all (λx=>x.1.isSome)&&decide ([e].length+([]:List Keyword).length+(if([]:List Keyword).isEmpty then 0 else 1)<30))=true:=by rfl)
  (g:(apos.endLine == c.line)=true:=by rfl) (U:starEach [e] X.env=(false,eval e X.env)::starEach [] X.env:=by exact di rfl) (f:(backTo c (starEach [] X.env)).any (·.1)=false:=by exact eU rfl)
  (E:swapsWith (.Call (.Attribute (.Name x p) "extend" apos) [e] [] c) none n.line X.env=pure false:=by rfl):
  VS X md P R (.Expr (.Call (.Attribute (.Name x p) "extend" apos) [e] [] c) n) (iT i m):=
 (rH (Af PySem.F.plainAttrs_list PySem.F.slot_list_extend PySem.F.type_list_extend Yg (lL (i:=i) hN hv hd G) (nA h oZ U) j u g U f) E).imp λD σ H q=>by
  obtain⟨ρ,O,F,as,r,s,k⟩:=q;obtain⟨d,O',ds,es,e,e2,e3,hz,k⟩:=Yh X.K X.mg k;obtain⟨a,J,h1,h2,h3,h4,Z,Y⟩:=s.own W e2;refine⟨_,h1,.inl ⟨rfl,J,.inl (.inl h2)⟩,ρ,O,F,as,d,O',r,s,e,λy H1 F1 I l B hy=>?_⟩;have s1:=s.step l
  have hn:H a≠none:=by rw[h2];exact λz=>nomatch z
  have C:=l.fr _ _ h2 h4 rfl
  have Q:F1 a=none:=by rw[l.fz a _ h2 h4 rfl];exact h3
  have L:=l.out h4 hn
  have hn1:H1 a≠none:=by rw[C];exact λz=>nomatch z
  have T:=Sv.lk hy B;rw[e3] at T;obtain⟨b,zs,rfl,w1,w2⟩:=T.list B.fh;exact⟨a,b,J,zs,rfl,rfl,C,w1,by rw[Y.length,w2.length];exact f9 hz,k σ _ F1 I (l.toS.trans (Bj C Z)) (B.mut Q L) (s1.mut W e2 h1 Q L Z (Rps.append w2 (Y.gr l)))⟩
def vM(i:Nat):MS:=λρ O=>match ρ[i]? with
 |some (some (.lst _))=>.nx (ρ.set i (some (.lst []))) O
 | _=>.no
theorem Yi(i:Nat){x:Str}{p apos b f:Pos}(l:md[i]?=some .o:=by rfl)(hN:X.N[i]?=some x:=by rfl)(u:Vis X.env.scope x:=by first | exact Or.inl rfl | exact Or.inr (Or.inl rfl) | exact Or.inr (Or.inr rfl))
  (hd:(x == ("__debug__":Str))=false:=by decide) (h:(x == ("__classdict__":Str))=false:=by decide)
  (d:attributeBase (.Name x p) "clear" X.env (eval (.Name x p) X.env)=eval (.Name x p) X.env:=by rfl) (c:(apos.endLine == b.line)=true:=by rfl)
  (g:swapsWith (.Call (.Attribute (.Name x p) "clear" apos) [] [] b) none f.line X.env=pure false:=by rfl):
  VS X md P R (.Expr (.Call (.Attribute (.Name x p) "clear" apos) [] [] b) f) (vM i):=
 (rH (VP PySem.F.plainAttrs_list PySem.F.slot_list_clear PySem.F.type_list_clear V1 (lL (i:=i) hN u hd h) d c) g).imp λD σ H q=>by
  obtain⟨ρ,O,F,y,r,s,k⟩:=q;unfold vM at k;split at k
  ·rename_i E n;obtain⟨a,j,h1,h2,h3,h4,m,C⟩:=s.own l n
   have B:H a≠none:=by rw[h2];exact λz=>nomatch z
   exact⟨_,h1,.inl ⟨rfl,j,.inl (.inl h2)⟩,a,j,rfl,rfl,h2,k σ _ F y (Bj h2 m) (r.mut h3 h4) (s.mut l n h1 h3 h4 m Rps.nil)⟩
  ·exact False.elim k
end
def putD(f:Str)(v:D):List (Str×D)->List (Str×D)
 | []=>[(f,v)]
 | (g,x)::r=>if g=f then(g,v)::r else(g,x)::putD f v r
section
variable {K:Frag}{F:Hp}{as:List Addr}
theorem FsR.cons_inv{b:List (Str×V)}{f:Str}{d:D}{fs:List (Str×D)}(h:FsR K F as b ((f,d)::fs)):∃v a,b=(f,v)::a/\Rp K F as v d/\FsR K F as a fs:=by
 obtain⟨h1,h2⟩:=h
 cases b with
 |nil=>cases h1
 |cons g a =>
  obtain⟨i,c⟩:=g;simp only[ze,List.cons.injEq] at h1;obtain⟨x,r,e,h3,h4⟩:=h2.un;simp only[ze,List.cons.injEq] at e;obtain⟨rfl,rfl⟩:=e;exact⟨c,a,by rw[h1.1],h3,⟨h1.2,h4⟩⟩
theorem FsR.nil_inv{a:List (Str×V)}(h:FsR K F as a []):a=[]:=List.map_eq_nil_iff.mp h.nm
theorem FsR.get:∀{fs:List (Str×D)}{a:List (Str×V)}{f:Str}{d:D},FsR K F as a fs->fs.lookup f=some d->∃v,a.lookup f=some v/\Rp K F as v d
 | [],_,_,_,_,e=>by cases e
 | (g,x)::fs,a,f,d,h,e=>by
  obtain⟨v,b,rfl,h1,h2⟩:=h.cons_inv;rw[List.lookup_cons] at e ⊢
  cases q:f == g with
  |true =>
   rw[q] at e;cases e;exact⟨v,rfl,h1⟩
  |false =>
   rw[q] at e;exact FsR.get h2 e
theorem FsR.no:∀{fs:List (Str×D)}{a:List (Str×V)}{f:Str},FsR K F as a fs->fs.lookup f=none->a.lookup f=none
 | [],_,_,h,e=>by rw[h.nil_inv];rfl
 | (g,x)::fs,a,f,h,e=>by
  obtain⟨v,b,rfl,h1,h2⟩:=h.cons_inv;rw[List.lookup_cons] at e ⊢
  cases q:f == g with
  |true=>rw[q] at e;cases e
  |false =>
   rw[q] at e;exact FsR.no h2 e
theorem FsR.put{f:Str}{v:V}{d:D}(hv:Rp K F as v d):∀{fs:List (Str×D)}{a:List (Str×V)},FsR K F as a fs->FsR K F as (dY f v a) (putD f d fs)
 | [],_,h=>by
  rw[h.nil_inv];exact⟨rfl,Rps.cons hv Rps.nil⟩
 | (g,x)::fs,a,h=>by
  obtain⟨u,c,rfl,h1,h2⟩:=h.cons_inv;rw[dY,putD]
  by_cases q:g=f
  ·rw[if_pos q,if_pos q];exact⟨by simp[h2.nm],Rps.cons hv h2.vl⟩
  ·rw[if_neg q,if_neg q];have b:=FsR.put (f:=f) hv h2;exact⟨by simp[b.nm],Rps.cons h1 b.vl⟩
theorem FsR.length{fs:List (Str×D)}{a:List (Str×V)}(h:FsR K F as a fs):a.length=fs.length:=by
 have:=congrArg List.length h.nm
 simpa using this
theorem RlO.set{mg:Str->Option Value}{O:ak}{H:Hp}{n:Nat}{a:Addr}{o:Ob}{u:HO}(r:RlO K mg O H F as)(d:as[n]?=some a)(i:ObR K mg (upd H a u) F as a o):RlO K mg (O.set n o) (upd H a u) F as:=by
 have j:=r.fa a (zR d);refine⟨λc w e=>?_,r.fd,r.nd,by rw[zX];exact r.len,r.fa,λk c w b hw=>?_⟩
 ·rw[aO (cN e j)];exact r.fh c w e
 ·by_cases h:n=k
  ·subst h;rw[d] at b;cases b;rw[zN (by rw[<-r.len];exact(zl.mp d).1)] at hw;cases hw;exact i
  ·rw[zm h] at hw
   refine(r.ob k c w b hw).keep (aO ?_) (Same.refl F) λ_ _ h=>h
   intro z;subst z;obtain⟨m,g⟩:=zl.mp d;obtain⟨l,f⟩:=zl.mp b;exact h ((List.getElem_inj r.nd).mp (g.trans f.symm))
end
def KC(K:Frag)(mg:Str->Option Value)(c f:Str):Prop:=∃C,mg c=some (.ref C)/\Cls K C/\nu K C f
section
variable {X:Cx}{md:List Md}{P:Pt}{R:RR}
def fP(b:List Str)(f:Str)(m:M D):M D:=λρ O=>(m ρ O).bind λd a=>match d with
 | .ob n=>match a[n]? with
  |some (.ins c fs)=>if c∈b then match fs.lookup f with
   |some y=>.ok y a
   |none=>.no else .no
  | _=>.no
 | _=>.no
theorem pO{l:List Str}{f:Str}{o:Expr}{b:Pos}{m:M D}(z:∀c∈l,KC X.K X.mg c f)(h:VE X md P o m)(hb:attributeBase o f X.env (eval o X.env)=eval o X.env:=by rfl):VE X md P (.Attribute o f b) (fP l f m):=(UW h hb).imp λσ H Q q=>by
 obtain⟨ρ,O,F,as,d,O',r,s,e,k⟩:=q;obtain⟨x,O1,Y,e⟩:=Res.bind_ok e
 cases x with
 |ob n =>
  dsimp only at e;split at e
  ·rename_i c fs W;split at e
   ·rename_i g;split at e
    ·rename_i y U;cases e;refine⟨ρ,_,F,as,_,_,r,s,Y,λv H1 F1 i T j u=>?_⟩;obtain⟨a,rfl,B⟩:=Rp.unO u;obtain⟨C,Z,L,h1,h2,h3⟩:=j.ob n a _ B W;obtain⟨C',h4,J,I⟩:=z c g;rw[h1] at h4;cases h4;obtain⟨w,G,E⟩:=h3.get U;exact⟨a,C,Z,L,w,rfl,h2,J,I,G,k w H1 F1 i T j E⟩
    ·cases e
   ·cases e
  ·cases e
 | _=>cases e
def kI(b:List Str)(f:Str)(mo a:M D):MS:=λρ O=>match a ρ O with
 | .ok d O1=>match mo ρ O1 with
  | .ok (.ob n) O2=>match O2[n]? with
   |some (.ins c fs)=>if c∈b/\fs.length<900 then .nx ρ (O2.set n (.ins c (putD f d fs))) else .no
   | _=>.no
  | _=>.no
 | .ex x O'=>.ex x O'
 | .no=>.no
theorem Kz{Y:List Str}{f:Str}{o value:Expr}{j pos':Pos}{mo L:M D}(hc:∀c∈Y,KC X.K X.mg c f)(ho:VE X md P o mo)(hv:VE X md P value L)(hs:swapsWith value (some (.Attribute o f pos')) j.line X.env=pure false:=by rfl):VS X md P R (.Assign [.Attribute o f pos'] value j) (kI Y f mo L):=(U0 ho hv hs).imp λD σ H q=>by
 obtain⟨ρ,O,F,as,r,s,k⟩:=q;unfold kI at k;split at k
 ·rename_i d Z e1;split at k
  ·rename_i n O2 e2;split at k
   ·rename_i c fs eo;split at k
    ·rename_i G;refine⟨ρ,O,F,as,d,Z,r,s,e1,λy H1 F1 I W r1 hy=>?_⟩;refine⟨ρ,Z,F1,I,.ob n,O2,r1,s.step W,e2,λz B E i U J hz=>?_⟩;have g:=W.trans U;obtain⟨a,rfl,m⟩:=Rp.unO hz;obtain⟨C,x,Q,h1,h2,h3⟩:=J.ob n a _ m eo;obtain⟨C',h4,h5,h6⟩:=hc c G.1;rw[h1] at h4;cases h4;have l:=zR m
     have hn:B a≠none:=by rw[h2];exact λz=>nomatch z
     have T:Gr B E i (upd B a (.ins C x (dY f y Q))) E i:=⟨λ_ _ _ _ _=>rfl,Same.refl _,⟨[],by simp,λ_ h=>nomatch h⟩,λb u e hb _=>by rw[aO (λz=>hb (by rw[z];exact l))];exact e,λb e=>by
      by_cases h:b=a
      ·subst h;rw[bN] at e;cases e
      ·rwa [aO h] at e,λb o' u e=>by rw[aO (λz=>by rw[z,h2] at e;cases e)];exact e⟩
     refine⟨a,C,x,Q,rfl,h2,h5,h6,by rw[h3.length];omega,?_⟩;exact k σ _ E i (g.trans T).toS (J.set m ⟨C,x,_,h1,bN,h3.put (Rp.gr hy U)⟩) ((s.step g).step T)
    ·exact False.elim k
   ·exact False.elim k
  ·exact False.elim k
 ·exact False.elim k
 ·exact False.elim k
end
section
variable {Pr:Program}{w:World}{K:Frag}{mg:Str->Option Value}{base:Heap}
theorem KD{x qual:Str}{st:Stmt}{f:Addr}{fd:FuncData}{N ps:List Str}{k:Nat}(Y:Fun K x qual st f fd)(S:bB N ps (aR st))
  (pm C:List Md) {R:RR}{b:MS} (W:fZ R) (B:∀N H F as,R N H F as .non .non) (z:pm.length=ps.length) (T:(pm++C).length=N.length) (L:∀m∈pm,m≠.o)
  (body:∀(i:Value) (A:Around) (outer:List Env) (s:Shared) (H:Hp) (E:XK),bA k (A.deeper (envOfC qual (aR st) s.heap.objs.size f i))->∀P,VSs ((iI CX0 Pr w K mg base N qual (aR st) f i A outer s H E).nox) (pm++C) P R (eG st) b):
  dI Pr w K mg base CX0 (k+1) f fd ps (vSp K mg pm R (bC N.length b)):=by
 refine Y.ok S (λG H Q E h=>?_) (λi A outer s H G Q E J h=>?_)
 ·obtain⟨n,O,F,as,d,X,r,a,_⟩:=h;rw[a.len.1,z]
 ·obtain⟨n,O,F,as,d,X,r,a,e,q⟩:=h;refine⟨_,body i A outer s H E J (Pt.all H),?_⟩;refine⟨_,O,F,as,r,J9 a T L,?_⟩;unfold bC at e
  cases eb:b (n.map some++List.replicate (N.length - n.length) none) O with
  |rt d' O2 =>
   rw[eb] at e;cases e
   exact λv u y j g l I=>q v u y j g.gr l (W _ _ _ _ _ _ _ (λc U=>Classical.not_not.mp U) I)
  |nx ρ O2 =>
   rw[eb] at e;cases e
   exact λσ' u y j g l _=>q _ u y j g.gr l (B _ _ _ _)
  |bk _ _=>rw[eb] at e;cases e
  |ct _ _=>rw[eb] at e;cases e
  |ex _ _=>rw[eb] at e;cases e
  |no=>rw[eb] at e;cases e
def lZ(K:Frag)(mg:Str->Option Value)(c m qual:Str)(st:Stmt):Prop:=∃C f fd,mg c=some (.ref C)/\Cls K C/\rP K C m f/\Fun K m qual st f fd
def iw(P:Program)(w:World)(K:Frag)(mg:Str->Option Value)(base:Heap)(c m:Str)(ps:List Str)(k:Nat)(sp:Sp):Prop :=
 ∃C f fd,mg c=some (.ref C)/\Cls K C/\rP K C m f/\Binds K fd ps []/\dI P w K mg base CX0 k f fd ps sp
def Bk(P:Program)(w:World)(K:Frag)(mg:Str->Option Value)(base:Heap)(c:Str)(ps:List Str)(k:Nat)(sp:Sp):Prop :=
 ∃C f fd,mg c=some (.ref C)/\Mk K C f/\Binds K fd ps []/\dI P w K mg base CX0 k f fd ps sp
def Bl(K:Frag)(mg:Str->Option Value)(c qual:Str)(st:Stmt):Prop:=∃C f fd,mg c=some (.ref C)/\Mk K C f/\Fun K "__init__" qual st f fd
theorem pP{c x qual:Str}{st:Stmt}{N ps:List Str}{k:Nat}(r:lZ K mg c x qual st)(S:bB N ps (aR st))
  (hb:∀(kV i pm:Value) (q:Option Addr) (a ct:Value) (us:List Value),us.length=ps.length->bindArgs (PySem.W.fnOf x qual (gY st) (eG st) (aR st) .none kV i pm q a ct) ⟨us,[]⟩=pure (ps.zip us))
  (pm d:List Md) {R:RR}{b:MS} (n:fZ R) (h:∀N H F as,R N H F as .non .non) (g:pm.length=ps.length:=by rfl) (l:(pm++d).length=N.length:=by rfl) (j:∀m∈pm,m≠.o:=by decide)
  (body:∀(f:Addr) (a:Value) (A:Around) (outer:List Env) (s:Shared) (H:Hp) (E:XK),bA k (A.deeper (envOfC qual (aR st) s.heap.objs.size f a))->∀P,VSs ((iI CX0 Pr w K mg base N qual (aR st) f a A outer s H E).nox) (pm++d) P R (eG st) b):
  iw Pr w K mg base c x ps (k+1) (vSp K mg pm R (bC N.length b)):=by
 obtain⟨C,f,fd,h1,h2,h3,h4⟩:=r;exact⟨C,f,fd,h1,h2,h3,h4.binds hb,KD h4 S pm d n h g l j (body f)⟩
theorem Yj{c qual:Str}{st:Stmt}{N ps:List Str}{k:Nat}(r:Bl K mg c qual st)(S:bB N ps (aR st))
  (hb:∀(kV i pm:Value) (q:Option Addr) (a ct:Value) (us:List Value),us.length=ps.length->bindArgs (PySem.W.fnOf "__init__" qual (gY st) (eG st) (aR st) .none kV i pm q a ct) ⟨us,[]⟩=pure (ps.zip us))
  (pm d:List Md) {R:RR}{b:MS} (n:fZ R) (h:∀N H F as,R N H F as .non .non) (g:pm.length=ps.length:=by rfl) (l:(pm++d).length=N.length:=by rfl) (j:∀m∈pm,m≠.o:=by decide)
  (body:∀(f:Addr) (a:Value) (A:Around) (outer:List Env) (s:Shared) (H:Hp) (E:XK),bA k (A.deeper (envOfC qual (aR st) s.heap.objs.size f a))->∀P,VSs ((iI CX0 Pr w K mg base N qual (aR st) f a A outer s H E).nox) (pm++d) P R (eG st) b):
  Bk Pr w K mg base c ps (k+1) (vSp K mg pm R (bC N.length b)):=by
 obtain⟨C,f,fd,h1,h2,h4⟩:=r;exact⟨C,f,fd,h1,h2,h4.binds hb,KD h4 S pm d n h g l j (body f)⟩
end
section
variable {X:Cx}{md:List Md}{P:Pt}{R:RR}{k:Nat}{c m:Str}{ps:List Str}{p pos apos:Pos}{o e:Expr}{es:List Expr}{pm:List Md}{cf:List D->ak->Res D}{mo:M D}{ma:M (List D)}
def cI(c m:Str)(cf:List D->ak->Res D)(mo:M D)(ma:M (List D)):M D:=λρ O=>(mo ρ O).bind λd a=>match d with
 | .ob n=>match a[n]? with
  |some (.ins c' fs)=>if c'=c/\(fs.lookup m).isNone=true then(ma ρ a).bind λb f=>cf (.ob n::b) f else .no
  | _=>.no
 | _=>.no
theorem KH{K:Frag}{mg:Str->Option Value}{C:Addr}(Y:fZ R)(Z:mg c=some (.ref C)){E:XK}{σ:St}{H:Hp}{Q:VK}(q:tM K mg md P R (cI c m cf mo ma) σ H Q):
  Aa C m (vSp K mg (.v::pm) R cf) [] E (tM K mg md P (rV K) mo) (tMA K mg md P pm ma) σ H Q:=by
 obtain⟨ρ,O,F,as,d,O',r,s,e,k⟩:=q;obtain⟨x,I,e1,e⟩:=Res.bind_ok e
 cases x with
 |ob n =>
  dsimp only at e;split at e
  ·rename_i c' fs eo;split at e
   ·rename_i z;obtain⟨B,G,e2,e⟩:=Res.bind_ok e;refine⟨ρ,O,F,as,.ob n,I,r,s,e1,λv H1 F1 j g u y=>?_⟩;obtain⟨a,rfl,W⟩:=Rp.unO y;obtain⟨C',dx,gs,h1,h2,h3⟩:=u.ob n a _ W eo;rw[z.1,Z] at h1;cases h1;refine⟨a,dx,gs,rfl,h2,h3.no (Option.isNone_iff_eq_none.mp z.2),?_⟩;refine⟨ρ,I,F1,j,B,G,u,s.step g,e2,λvs H2 F2 i f L h=>?_⟩;dsimp only;rw[zH];exact⟨.ob n::B,G,F2,i,d,O',L,⟨Rp.gr y f,h⟩,e,λJ H' F' l g' T hw=>k J H' F' l ((g.trans f).trans g') T (Y _ _ _ _ _ _ _ (λb U=>(g.trans f).dm b U) hw)⟩
   ·cases e
  ·cases e
 | _=>cases e
theorem KJ{pl:Sem Bool}(j:fZ R)(M:iw X.prog X.w X.K X.mg X.base c m ps k (vSp X.K X.mg (.v::pm) R cf))(g:bA k X.A)(h:VE X md P o mo)(i:AE X md P pm (e::es) ma)
  (a:starEach (e::es) X.env=(false,eval e X.env)::starEach es X.env:=by exact di rfl) (b:(backTo pos (starEach es X.env)).any (·.1)=false:=by exact eU rfl)
  (d:eval (.Call (.Attribute o m apos) (e::es) [] pos) X.env=(do
   let ov <-eval o X.env
   standAt apos.atName
   let (f,first) <-holding [ov] (getMethod ov m pl)
   callWith pos f first (backTo pos (starEach (e::es) X.env)) (backToKw pos (keywordEach [] X.env))):=by rfl):
  PE X (.Call (.Attribute o m apos) (e::es) [] pos) (tM X.K X.mg md P R (cI c m cf mo ma)):=by
 obtain⟨C,f,fd,h1,h2,h3,h4,l⟩:=M
 exact(Vb (pl:=pl) (E:=E0) (ds:=[]) (dvs:=[]) h h2 h3 l g h4 .nil vo i a b d).imp λ_ _ _ q=>KH j h1 q
theorem Yk{pl:Sem Bool}(B:fZ R)(M:iw X.prog X.w X.K X.mg X.base c m ps k (vSp X.K X.mg [.v] R cf))(y:bA k X.A)(z:VE X md P o mo)
  (x:eval (.Call (.Attribute o m apos) [] [] pos) X.env=(do
   let ov <-eval o X.env
   standAt apos.atName
   let (f,first) <-holding [ov] (getMethod ov m pl)
   callWith pos f first (backTo pos (starEach [] X.env)) (backToKw pos (keywordEach [] X.env))):=by rfl):
  PE X (.Call (.Attribute o m apos) [] [] pos) (tM X.K X.mg md P R (cI c m cf mo aq)):=by
 obtain⟨C,f,fd,h1,h2,h3,h4,G⟩:=M
 refine(Vc (pl:=pl) (E:=E0) (ds:=[]) (dvs:=[]) z h2 h3 G y h4 .nil vo x).imp λσ H Q q=>?_
 obtain⟨ρ,O,F,W,d,Y,r,s,e,k⟩:=KH (pm:=[]) (E:=E0) B h1 q;refine⟨ρ,O,F,W,d,Y,r,s,e,λv i F' h g l u=>?_⟩;obtain⟨a,U,fs,T,L,J,t⟩:=k v i F' h g l u;refine⟨a,U,fs,T,L,J,?_⟩;obtain⟨ρ1,O1,Z,b,ds1,O2,j,s1,I,n⟩:=t;cases I;exact n [] i Z b Gr.refl j trivial
def nW(c:Str)(cf:List D->ak->Res D)(ma:M (List D)):M D:=λρ O=>(ma ρ O).bind λb a=>match cf (.ob a.length::b) (a++[.ins c []]) with
 | .ok .non O2=>.ok (.ob a.length) O2
 | .ok _ _=>.no
 | .ex x O2=>.ex x O2
 | .no=>.no
theorem Yl{K:Frag}{mg:Str->Option Value}{C:Addr}(hC:mg c=some (.ref C)){E:XK}{σ:St}{H:Hp}{Q:VK}(q:tM K mg md P (rV K) (nW c cf ma) σ H Q):
  Jb C (vSp K mg (.v::pm) (rV K) cf) [] E (tMA K mg md P pm ma) σ H Q:=by
 obtain⟨ρ,O,F,as,d,O',r,s,e,k⟩:=q;obtain⟨ds,B,e1,e⟩:=Res.bind_ok e;split at e
 ·rename_i O2 ec;cases e;refine⟨ρ,O,F,as,ds,B,r,s,e1,λvs u j f g1 y W=>?_⟩;intro x g T L Y;rw[zH]
  have I:upd u g (.own x) x=none:=by rw[aO Y.symm];exact T
  have gA:Gr u j f (upd u g (.own x)) j f:=Gr.lay L;have gB:Gr (upd u g (.own x)) j f (upd (upd u g (.own x)) x (.ins C g [])) j f:=Gr.lay I;have gC:Gr (upd (upd u g (.own x)) x (.ins C g [])) j f (upd (upd u g (.own x)) x (.ins C g [])) j f:=Gr.refl;have l:=gA.trans gB;have g2:Gr u j f (upd (upd u g (.own x)) x (.ins C g [])) j (f++[x]):=⟨l.fz,l.ff,⟨[x],rfl,λa i=>by rw[zk.mp i];exact T⟩,λa o e i hd=>l.fr a o e i hd,l.dm,l.kz⟩
  have nx:x∉f:=λz=>y.all z T
  have U:=(y.lay (o:=.own x) L).lay (o:=.ins C g []) I
  have at_:∀(n:Nat) (a:Addr),f[n]?=some a->(f++[x])[n]?=some a:=λn a h=>by
   rw[zA (zl.mp h).1];exact h
  have r2:RlO K mg (B++[.ins c []]) (upd (upd u g (.own x)) x (.ins C g [])) j (f++[x]):=by
   refine⟨U.fh,U.fd,?_,by simp[y.len],λa i=>?_,λn a o i G=>?_⟩
   ·rw[jo];refine⟨y.nd,by simp,λa i b hb=>?_⟩;rw[zk.mp hb];intro z;subst z;exact nx i
   ·rcases zz.mp i with z | z
    ·exact y.fa a z
    ·rw[zk.mp z];exact y.frF T
   ·by_cases hn:n<B.length
    ·rw[zA (by rw[y.len];exact hn)] at i;rw[zA hn] at G;exact(U.ob n a o i G).keep rfl (Same.refl _) at_
    ·have hn':n=B.length:=by
      have:=(zl.mp G).1
      simp at this
      omega
     subst hn';rw[zC (zb _),Nat.sub_self] at G;rw[<-y.len,zC (zb _),Nat.sub_self] at i;cases G;cases i;exact⟨C,g,[],hC,bN,⟨rfl,Rps.nil⟩⟩
  have J:Rp K j (f++[x]) (.ref x) (.ob B.length):=Rp.mkO (by rw[<-y.len,zC (zb _),Nat.sub_self];rfl);refine⟨.ob B.length::ds,_,j,f++[x],.non,_,r2,⟨J,W.gr g2⟩,ec,λv H3 F3 Z g3 r3 hv=>?_⟩;exact⟨Rp.unN hv,k _ H3 F3 Z ((g1.trans g2).trans g3) r3 (Rp.gr J g3)⟩
 ·cases e
 ·cases e
 ·cases e
theorem Ym(M:Bk X.prog X.w X.K X.mg X.base c ps k (vSp X.K X.mg (.v::pm) (rV X.K) cf))(d:bA (k+1) X.A)(i:AE X md P pm (e::es) ma)(g:Gl X c:=by rfl)(b:(c == ("__debug__":Str))=false:=by decide)
  (h:starEach (e::es) X.env=(false,eval e X.env)::starEach es X.env:=by exact di rfl) (a:(backTo pos (starEach es X.env)).any (·.1)=false:=by exact eU rfl):VE X md P (.Call (.Name c p) (e::es) [] pos) (nW c cf ma):=by
 obtain⟨C,f,fd,h1,h3,h4,j⟩:=M
 exact(Ve (E:=E0) (ds:=[]) (dvs:=[]) h3 j d g h1 h4 .nil vo i b h a).imp λ_ _ _ q=>Yl h1 q
end
section
variable {X:Cx}{md:List Md}{P:Pt}{R:RR}
def pQ:D->Option (List D)
 | .lst ds=>some ds
 | .tup ds=>some ds
 | .str l=>if ascii l=true then some (lW l) else none
 | _=>none
def bY(m:M D):M (List D):=λρ O=>(m ρ O).bind λd b=>match pQ d with
 |some a=>.ok a b
 |none=>.no
theorem KN{e:Expr}{m:M D}(h:WE X md P e m):SE X md P e m:=h.imp λσ H Q q=>by
 obtain⟨ρ,O,F,z,d,B,r,s,e,k⟩:=q;refine⟨ρ,O,F,z,d,B,r,s,e,λv C E c g i b=>k v C E c g i ?_⟩
 rcases b with b | ⟨a,f,y,x,u,n,l,G,j⟩
 ·exact .inl b
 ·exact .inr ⟨a,f,y,x,u,n,l,j⟩
theorem pR{g e:Expr}{m:M D}(h:WE X md P e m):VI X md P g e (bY m):=λpins s σ H Q I q=>by
 obtain⟨ρ,O,F,c,j,u,r,sl,e,k⟩:=q;obtain⟨d,n,b,e⟩:=Res.bind_ok e
 cases d with
 |lst f =>
  cases e;exact Kr h pins s σ H Q I ⟨ρ,O,F,c,_,_,r,sl,by unfold pM;rw[b];rfl,k⟩
 |tup f =>
  cases e;exact Ks (dF (KN h)) pins s σ H Q I ⟨ρ,O,F,c,_,_,r,sl,by unfold Be mG;rw[b];rfl,k⟩
 |str l =>
  simp only[pQ] at e;split at e
  ·rename_i f a;split at a
   ·rename_i i;cases a;cases e;refine Ku (KN h) pins s σ H Q I ⟨ρ,O,F,c,lW l,_,r,sl,?_,k⟩;unfold Bg;rw[b];show(if ascii l=true then _ else _)=_;rw[if_pos i]
   ·cases a
  ·cases e
 | _=>cases e
theorem Yn{E e:Expr}{m:M D}(h:SE X md P e m):VIc X md P E e (pM m):=(vf h).imp λσ H Q q=>by
 obtain⟨ρ,O,F,as,ds,Y,r,s,e,k⟩:=q;obtain⟨d,W,T,e⟩:=Res.bind_ok e
 cases d with
 |lst es =>
  cases e;refine⟨ρ,_,F,as,_,_,r,s,T,λv B n l G C z=>?_⟩
  obtain⟨a,c,rfl,h1,h2⟩:∃a c,v=.ref a/\Rps X.K n l c ds/\∀(f j:Hp) (b:List Addr),Gr B n l f j b->(∃O,RlO X.K X.mg O f j b)->RdK X.K f a c:=by
   rcases z with z | ⟨a,c,U,rfl,e,L,J,I⟩
   ·obtain⟨a,c,rfl,h1,h2⟩:=z.unL;exact⟨a,c,rfl,h2,λf j b g ⟨O,r⟩=>(h1.mono g.ff).mono r.fh⟩
   ·cases e;exact⟨a,c,rfl,I,λf j b g _=>.inl (.inl (g.fr _ _ L J rfl))⟩
  refine⟨a,rfl,⟨c,(h2 B n l Gr.refl ⟨_,C⟩).sq⟩,k _ B n l G C ⟨λi d f j b g r e=>?_,λf j b g r=>⟨c,(h2 f j b g r).sq,by rw[h1.length];exact zb _⟩⟩⟩;obtain⟨x,h3,h4⟩:=h1.get' e;have q:=h2 f j b g r;refine⟨⟨c,x,q.sq,h3⟩,λy Z u=>?_⟩;obtain⟨rfl,u⟩:=u
  have:=u c q.sq
  rw[h3] at this;cases this;exact⟨j,Gr.refl,λ_ r=>r,h4.gr g⟩
 | _=>cases e
theorem iU{g e:Expr}{m:M D}(h:SE X md P e m):VIc X md P g e (bY m):=λpins s σ H Q I q=>by
 obtain⟨ρ,O,F,c,j,u,r,sl,e,k⟩:=q;obtain⟨d,n,b,e⟩:=Res.bind_ok e
 cases d with
 |lst f =>
  cases e;exact Yn h pins s σ H Q I ⟨ρ,O,F,c,_,_,r,sl,by unfold pM;rw[b];rfl,k⟩
 |tup f =>
  cases e;exact Ay (Ks (dF h)) pins s σ H Q I ⟨ρ,O,F,c,_,_,r,sl,by unfold Be mG;rw[b];rfl,k⟩
 |str l =>
  simp only[pQ] at e;split at e
  ·rename_i f a;split at a
   ·rename_i i;cases a;cases e;refine Ay (Ku h) pins s σ H Q I ⟨ρ,O,F,c,lW l,_,r,sl,?_,k⟩;unfold Bg;rw[b];show(if ascii l=true then _ else _)=_;rw[if_pos i]
   ·cases a
  ·cases e
 | _=>cases e
def Yo(m:M D):M (List D):=λρ O=>(m ρ O).bind λd a=>match d with
 | .lst ds=>.ok (tL 0 ds) a
 | .str l=>if ascii l=true then .ok (tL 0 (lW l)) a else .no
 | _=>.no
variable {elts:List Expr}{x1:Nat}{tpos:Pos}
def pU(sl:List Nat)(ρ:az)(σ:St):List (Nat×V×D):=sl.filterMap λj=>match ρ[j]?,σ[j]? with
 |some (some d),some (some v)=>some (j,v,d)
 | _,_=>none
theorem Yp{sl:List Nat}{ρ:az}{σ:St}{x:Nat×V×D}(h:x∈pU sl ρ σ):x.1∈sl/\ρ[x.1]?=some (some x.2.2)/\σ[x.1]?=some (some x.2.1):=by
 obtain⟨j,a,e⟩:=List.mem_filterMap.mp h;split at e
 ·rename_i d v c b;cases e;exact⟨a,c,b⟩
 ·cases e
theorem Yq{sl:List Nat}{ρ:az}{σ:St}{j:Nat}{v:V}{d:D}(h:j∈sl)(b:ρ[j]?=some (some d))(a:σ[j]?=some (some v)):(j,v,d)∈pU sl ρ σ :=
 List.mem_filterMap.mpr ⟨j,h,by simp only[b,a]⟩
def Pt.with(P:Pt)(a:Addr)(i:Nat)(d:D)(l:List (Nat×V×D)):Pt:=⟨λc=>P c\/c=a,(i,.ref a,d)::(l++P.ss)⟩
theorem SlO.protect{K:Frag}{ρ:az}{σ:St}{H F:Hp}{as:List Addr}{i:Nat}{a:Addr}{xs:List V}{ds:List D}{sl:List Nat}(s:SlO K md P ρ σ H F as)(Q:md[i]?=some .o)(T:∀j∈sl,md[j]?=some .s)(n:ρ[i]?=some (some (.lst ds)))(l:σ[i]?=some (some (.ref a)))(W:H a=some (.lst xs))(ha:a∉as)(hr:Rps K F as xs ds):
  SlO K (md.set i .s) (P.with a i (.lst ds) (pU sl ρ σ)) ρ σ H F as:=by
 have hi:i<md.length:=(zl.mp Q).1
 have ns:∀j:Nat,md[j]?=some Md.s->i≠j:=λj f z=>by rw[<-z,Q] at f;cases f
 refine⟨by rw[zX];exact s.len,by rw[zX];exact s.len',λc p=>?_,λj m d u E=>?_,λj k c r fs h1 h2 h3 h4 h5 h6=>?_,λx g=>?_⟩
 ·rcases p with p | p
  ·exact s.pd c p
  ·rw[p,W];exact λz=>nomatch z
 ·by_cases h:i=j
  ·subst h;rw[zN hi] at u;cases u;rw[n] at E;cases E;exact⟨_,l,.inr ⟨a,xs,ds,rfl,rfl,W,ha,.inr rfl,hr⟩⟩
  ·rw[zm h] at u;obtain⟨v,C,b⟩:=s.sl j m d u E;refine⟨v,C,?_⟩
   cases m with
   |v=>exact b
   |s =>
    rcases b with b | ⟨c,O,r,B,y,L,J,I,G⟩
    ·exact .inl b
    ·exact .inr ⟨c,O,r,B,y,L,J,.inl I,G⟩
   |o =>
    rcases b with b | ⟨c,O,r,B,y,L,Y,J,I,G⟩
    ·exact .inl b
    ·refine .inr ⟨c,O,r,B,y,L,Y,J,?_,G⟩;rintro(z | z)
     ·exact I z
     ·subst z B y;exact h (s.inj i j c ds r Q u n E l C)
 ·have U:∀k,(md.set i .s)[k]?=some Md.o->i≠k/\md[k]?=some Md.o:=λk q=>by
   by_cases h:i=k
   ·subst h;rw[zN hi] at q;cases q
   ·rw[zm h] at q;exact⟨h,q⟩
  exact s.inj j k c r fs (U j h1).2 (U k h2).2 h3 h4 h5 h6
 ·rcases zo.mp g with rfl | g
  ·exact⟨zN hi,n,l⟩
  ·rcases zz.mp g with g | g
   ·obtain⟨C,b,Z⟩:=Yp g;have f:=T _ C;exact⟨by rw[zm (ns _ f)];exact f,b,Z⟩
   ·obtain⟨f,p2,p3⟩:=s.pin x g;exact⟨by rw[zm (ns _ f)];exact f,p2,p3⟩
theorem SlO.unprotect{K:Frag}{ρ ρ0:az}{σ J:St}{H F H0 F0:Hp}{as L:List Addr}{i:Nat}{a:Addr}{xs:List V}{ds:List D}{sl:List Nat}(s0:SlO K md P ρ0 J H0 F0 L)(g:GrS P H0 F0 L H F as)
  (s:SlO K (md.set i .s) (P.with a i (.lst ds) (pU sl ρ0 J)) ρ σ H F as) (hm:md[i]?=some .o) (hsl:∀j:Nat,md[j]?=some .s->j∈sl/\∃d,ρ0[j]?=some (some d)) (hP:¬P a) (hH:H a=some (.lst xs)) (hF:F a=none) (ha:a∉as) (hr:Rps K F as xs ds):
  SlO K md P ρ σ H F as:=by
 have hi:i<md.length:=(zl.mp hm).1;obtain⟨_,pρ,q⟩:=s.pin (i,.ref a,.lst ds) zp
 have hpd:∀c,P c->H c≠none:=λc p=>s.pd c (.inl p)
 have sl1:∀(j:Nat) (m:Md) (d:D),i≠j->md[j]?=some m->ρ[j]?=some (some d)->∃v,σ[j]?=some (some v)/\fY P K H F as m v d:=λj m d h f n=>by
  obtain⟨v,C,l⟩:=s.sl j m d (by rw[zm h];exact f) n;refine⟨v,C,?_⟩
  cases m with
  |v=>exact l
  |s =>
   obtain⟨m1,d0,m2⟩:=hsl j f;obtain⟨v0,Z,w2⟩:=s0.sl j .s d0 f m2;obtain⟨_,G,E⟩:=s.pin (j,v0,d0) (zt _ (jp _ (Yq m1 m2 Z)));dsimp only at G E;rw[n] at G;cases G;rw[C] at E;cases E
   rcases w2 with w2 | ⟨c,T,b,B,Q,y,u,r,O⟩
   ·exact .inl (w2.grS g)
   ·exact .inr ⟨c,T,b,B,Q,g.fr _ _ r y u rfl,g.out u (by rw[y];exact λz=>nomatch z),r,O.grS g⟩
  |o =>
   rcases l with l | ⟨c,T,b,B,Q,y,z0,u,r,O⟩
   ·exact .inl l
   ·exact .inr ⟨c,T,b,B,Q,y,z0,u,λz=>r (.inl z),O⟩
 have ow:∀(j:Nat) (c:Addr) (b:List D),i≠j->md[j]?=some .o->ρ[j]?=some (some (.lst b))->σ[j]?=some (some (.ref c))->c≠a:=λj c b h f n e3 z=>by
  obtain⟨v,C,l⟩:=s.sl j .o _ (by rw[zm h];exact f) n;rw[e3] at C;cases C
  rcases l with⟨l,_⟩ | ⟨c',T,es',B,Q,y,z0,u,r,O⟩
  ·cases l
  ·cases B;exact r (.inr z)
 refine⟨by rw[<-zX (i:=i) (a:=Md.s)];exact s.len,by rw[<-zX (i:=i) (a:=Md.s)];exact s.len',hpd,λj m d f n=>?_,λj k c b fs h1 h2 h3 h4 Y W=>?_,λx hx=>?_⟩
 ·by_cases h:i=j
  ·subst h;rw[hm] at f;cases f;rw[pρ] at n;cases n;exact⟨_,q,.inr ⟨a,xs,ds,rfl,rfl,hH,hF,ha,hP,hr⟩⟩
  ·exact sl1 j m d h f n
 ·by_cases U:i=j
  ·by_cases I:i=k
   ·rw[<-U,<-I]
   ·subst U;rw[q] at Y;cases Y;exact absurd rfl (ow k _ fs I h2 h4 W)
  ·by_cases I:i=k
   ·subst I;rw[q] at W;cases W;exact absurd rfl (ow j _ b U h1 h3 Y)
   ·exact s.inj j k c b fs (by rw[zm U];exact h1) (by rw[zm I];exact h2) h3 h4 Y W
 ·obtain⟨p1,G,E⟩:=s.pin x (zt _ (zL _ hx));obtain⟨Z,_,_⟩:=s0.pin x hx;exact⟨Z,G,E⟩
def mj(i:Nat)(sl:List Nat)(ms:MS):MS:=λρ O=>match ρ[i]? with
 |some (some (.lst _))=>if sl.all (λj=>match ρ[j]? with | some (some _)=>true | _=>false)=true then ms ρ O else .no
 | _=>.no
theorem KQ(i:Nat)(sl:List Nat){md':List Md}{st:Stmt}{ms:MS}(hR:fZ R)(h:∀P,VS X md' P R st ms)(U:md[i]?=some .o:=by rfl)(W:md.set i .s=md':=by rfl)
  (C:((List.range md.length).all λj=>(md[j]? == some .s) == sl.contains j)=true:=by rfl) (y:(sl.all λj=>decide (j<md.length))=true:=by rfl):VS X md P R st (mj i sl ms):=λpins s σ H D I q=>by
 subst W;obtain⟨ρ,O,F,Q,r,s,k⟩:=q
 have E:∀j:Nat,md[j]?=some .s↔j∈sl:=λj=>by
  rw[jd] at C y;constructor
  ·intro e
   have:=C j (List.mem_range.mpr (zl.mp e).1)
   rw[e] at this;simpa using this
  ·intro e;have lt:=jh (y j e)
   have:=C j (List.mem_range.mpr lt)
   have e':sl.contains j=true:=by simpa using e
   rw[e'] at this;simpa using this
 unfold mj at k;split at k
 ·rename_i Z G;split at k
  ·rename_i J;obtain⟨a,xs,h1,h2,h3,h4,h5,Y⟩:=s.own U G;have sp:=s.protect (sl:=sl) U (λj L=>(E j).mpr L) G h1 h2 h4 Y
   have hset':∀j:Nat,md[j]?=some .s->j∈sl/\∃d,ρ[j]?=some (some d):=λj e=>by
    have L:=(E j).mp e;refine⟨L,?_⟩
    have:=jd.mp J j L
    split at this
    ·rename_i d ed;exact⟨d,ed⟩
    ·cases this
   have hn:H a≠none:=by rw[h2];exact λz=>nomatch z
   have back:∀{n f l m b},GrS (P.with a i (.lst Z) (pU sl ρ σ)) H F Q l m b->SlO X.K (md.set i .s) (P.with a i (.lst Z) (pU sl ρ σ)) n f l m b->GrS P H F Q l m b/\SlO X.K md P n f l m b:=λ{n f l m b} g u=>by
    have g':GrS P H F Q l m b:=g.mono λc p=>.inl p
    exact⟨g',SlO.unprotect s g' u U hset' h5 (g.fr _ _ (.inr rfl) h2 h4 rfl) (by rw[g.fz a _ (.inr rfl) h2 h4 rfl];exact h3) (g.out h4 hn) (Y.grS g)⟩
   refine h _ pins _ σ H D I ⟨ρ,O,F,Q,r,sp,?_⟩
   cases em:ms ρ O with
   |nx n T=>rw[em] at k;exact λf l m b g B u=>k f l m b (back g u).1 B (back g u).2
   |bk n T=>rw[em] at k;exact λf l m b g B u=>k f l m b (back g u).1 B (back g u).2
   |ct n T=>rw[em] at k;exact λf l m b g B u=>k f l m b (back g u).1 B (back g u).2
   |rt d T=>rw[em] at k;exact λv l m b g B hv=>k v l m b (g.mono λc p=>.inl p) B (hR _ _ _ _ _ _ _ (λc hc p=>hc (.inl p)) hv)
   |ex x T=>rw[em] at k;exact k
   |no=>rw[em] at k;exact k
  ·exact False.elim k
 ·exact False.elim k
end
theorem Yr{P:Program}{w:World}{K:PySem.W.Frag}{mg L:Str->Option Value}{CX:CXT}{k:Nat}{fa a:Addr}{fd:FuncData}{x:Str}{sp:Sp}{c:Shared}{vs:List Value}{ns:List Int}
  (KX:K.In c.heap) (B:c.heap.Ns mainGlobals mg) (hb:c.heap.Ns builtinsNs L) (R:∀x:Str,x≠"__name__"->L x=bootBuiltins x) (I:c.heap.NoLimit) (hg:c.gens = #[])
  (J:c.heap.get? a=some {cls:=.type "list",data:=.seq vs.toArray}) (hi:IntsAre vs ns) (X:ns.length<=sizeLine) (hr:bA k callerA)
  (F:∀base:Heap,K.In base->base.Ns mainGlobals mg->dI P w K mg base CX k fa fd [x] sp) (j:∀(s:Shared) (u:Value),BindsTo s fd ⟨[u],[]⟩ [(x,u)])
  (Q:∀H:Hp,nD H->RdK K H a (ns.map V.int)->sp [.ref a] H (λv _=>v=.bl true) λ_ _ _=>False)
  (T:∀H e g,CX [] H c (λ_ _ _=>False) e g->False):
  codeAny (model P w) callerA (.call (.ref fa) ⟨[.ref a],[]⟩) (λr g=>r=.ok (.ret (.bool true))/\OldK c.heap g.heap/\g.os=c.os/\AllBare g.gens) c:=by
 have U:=Ag hi;have E:=hi.length;have core:∀H:Hp,nD H->RdK K H a (ns.map V.int)->HOk P w H c.heap->(∀b,H b≠none->b=a)->(H a≠none->K.lookup a=none) ->
   codeAny (model P w) callerA (.call (.ref fa) ⟨[.ref a],[]⟩) (λr g=>r=.ok (.ret (.bool true))/\OldK c.heap g.heap/\g.os=c.os/\AllBare g.gens) c:=by
  intro H Y hS hok Z hK
  have f:∀{b:Addr}{o:Obj},c.heap.get? b=some o->H b=none->(fX c.heap H).get? b=some o:=λe n=>HW e n
  have O:∀{b:Addr}{o:Obj}{l:Array DictEntry}{y:Nat},c.heap.get? b=some o->o.data=.dict l y->H b=none:=λ{b o l y} e d=>by
   cases q:H b with
   |none=>rfl
   |some u =>
    have e':b=a:=Z b (by rw[q];simp);subst e';rw[J] at e;cases e;have d':Data.seq vs.toArray _=Data.dict l y:=d;cases d'
  have i:∀{b:Addr}{m:Str->Option Value},c.heap.Ns b m->(fX c.heap H).Ns b m:=λ{b m} ⟨o,l,y,e,d,r⟩=>⟨o,l,y,f e (O e d),d,r⟩
  have C:K.In (fX c.heap H):=λb o e=>f (KX b o e) (by
   cases q:H b with
   |none=>rfl
   |some u =>
    have e':b=a:=Z b (by rw[q];simp);subst e'
    rw[hK (by rw[q];simp)] at e;cases e)
  have hM:Mod K mg (fX c.heap H):=⟨C,i B,⟨L,i hb,R⟩,let ⟨mc,h1,h2⟩:=I;⟨mc,i h1,h2⟩⟩;have e0:lM P w K mg (fX c.heap H) callerA [] c H:=⟨rfl,hM,λb o e=>HX e,Nat.le_of_eq (HS _ _),trivial,λb hb=>absurd (show b∈([]:List Addr) from hb) (by simp),hok,.of_eq hg⟩
  refine codeAny_mono ((F _ C (i B)).run callerA [] c H ⟨[.ref a],[]⟩ [.ref a] [.ref a] _ _ hr e0 (j c (.ref a)) (.cons rfl .nil) (Q H Y hS)) λr g h=>?_
  cases r with
  |error e=>exact(T H e g h).elim
  |ok fl =>
   cases fl with
   |next=>exact False.elim h
   |brk=>exact False.elim h
   |cont=>exact False.elim h
   |ret u =>
    obtain⟨v,H',os,bare,un,G,r',q⟩:=h;have q':v=.bl true:=q;subst q';obtain rfl:u=Value.bool true:=r';refine⟨rfl,OldK.of_keep λb o e=>?_,os,bare⟩
    cases q:H b with
    |none=>exact un.keep b o e q (by intro z;exact absurd (show b∈([]:List Addr) from z) (by simp)) (by simp)
    |some u =>
     rcases Y b with z | ⟨ob,xs,z⟩
     ·rw[q] at z;cases z
     ·have z2:=un.frzs b ob _ z;obtain⟨e1,_⟩:=hok b _ z;obtain⟨e2,_⟩:=G b _ z2;rw[e] at e1;cases e1;exact e2
 cases hk:K.lookup a with
 |some o =>
  have e:=KX a o hk;rw[J] at e;cases e
  refine core (λ_=>none) (λ_=>.inl rfl) (.inr ⟨vs,_,hk,by rw[E];exact X,U⟩) (λb u z=>by have z':(none:Option HO)=some u:=z;cases z') (λb z=>absurd rfl z) λz=>absurd rfl z
 |none =>
  refine core (λb=>if b=a then some (.frz {cls:=.type "list",data:=.seq vs.toArray} (.lst (ns.map V.int))) else none) (λb=>?_) (.inl (.inr ⟨{cls:=.type "list",data:=.seq vs.toArray},if_pos rfl⟩)) (λb u z=>?_) (λb z=>?_) λ_=>hk
  ·by_cases hb:b=a
   ·exact .inr ⟨_,_,if_pos hb⟩
   ·exact .inl (if_neg hb)
  ·by_cases hb:b=a
   ·have z':=(if_pos hb).symm.trans z;cases z';subst hb;exact⟨J,by rw[zd];exact X,vs,_,U,J⟩
   ·have z':=(if_neg hb).symm.trans z;cases z'
  ·by_cases hb:b=a
   ·exact hb
   ·exact absurd (if_neg hb) z
theorem walk_ofR{l:PySem.W.OpenLaw}{n k:Nat}{q:Program}{loose:List Str}{XP:(Str->Option Value)->Heap->Prop}{YP:World->Heap->Prop}{d:DefRec}{K:Params->PySem.W.Frag}{CX:World->CXT}{sp:World->Sp}{x:Str}
  (hn:l.most=some n) (hn2:n<=sizeLine) (hdf:d.params.defaults=[]) (hr:bA k callerA)
  (hY:∀(w:World) (h:Heap),YP w h->(K w.params).In h)
  (F:∀(w:World) (mg:Str->Option Value) (fa:Addr) (h:Heap),(K w.params).In h->h.Ns mainGlobals mg->mg d.name=some (.ref fa) ->
   ∃fd:FuncData,(∀(s:Shared) (u:Value),BindsTo s fd ⟨[u],[]⟩ [(x,u)]) /\
    ∀base:Heap,(K w.params).In base->base.Ns mainGlobals mg->dI l.prog w (K w.params) mg base (CX w) k fa fd [x] (sp w))
  (hsp:∀(w:World) (H:Hp) (a:Addr) (ns:List Int),ns.length<=n->nD H->RdK (K w.params) H a (ns.map V.int)->sp w [.ref a] H (λv _=>v=.bl true) λ_ _ _=>False)
  (hCX:∀(w:World) (H:Hp) (s:Shared) (e:Value) (s':Shared),CX w [] H s (λ_ _ _=>False) e s'->False):
  PySem.W.WalkO q loose XP YP l.row.toRowW d [] (λf vs=>PySem.call f vs):=by
 refine Att.attach_call hn hdf λw s₀ s₁ mg mb fa o pm cd doc a vs ns G Y ho hd hcd hmg hobj hints hlen hg=>?_
 have KX:=hY w _ Y;obtain⟨fd,hb,hF⟩:=F w mg fa _ KX G.T.g hmg
 exact Yr KX G.T.g G.T.b G.T.builtins G.T.nolimit hg hobj hints (zM hlen hn2) hr hF hb (λH hO hS=>hsp w H a ns hlen hO hS) λH e s'=>hCX w H s₁ e s'
theorem mq{K:Frag}{mg:Str->Option Value}{f:Str}:∀c∈([]:List Str),KC K mg c f:=λ_ h=>nomatch h
theorem mz{K:Frag}{mg:Str->Option Value}{f c:Str}{d:List Str}(h:KC K mg c f)(g:∀c∈d,KC K mg c f):∀b∈c::d,KC K mg b f:=λb a=>by
 rcases zo.mp a with rfl | a
 ·exact h
 ·exact g b a
def wF:Nat:=1000000
def sp_law(K:Frag):Sp:=λvs H Q _=>∃(a:Addr) (ns:List Int),vs=[.ref a]/\RdK K H a (ns.map V.int)/\ns.length<=63/\nD H/\∀b,Q (.bl true) b
theorem Rps.ofInts{K:Frag}{F:Hp}{as:List Addr}:∀ns:List Int,Rps K F as (ns.map V.int) (ns.map D.int)
 | []=>Rps.nil
 |n::ns=>Rps.cons Rp.int (Rps.ofInts ns)
theorem Ys{K:Frag}{mg:Str->Option Value}{c:List D->ak->Res D}(h:∀ns:List Int,ns.length<=63->∃d,c [.lst (ns.map D.int)] []=.ok (.bl true) d):∀vs H Q E,sp_law K vs H Q E->vSp K mg [.s] (rV K) c vs H Q E:=by
 rintro vs H Q E ⟨a,ns,rfl,hS,hl,hO,q⟩;obtain⟨d,e⟩:=h ns hl
 have r:RlO K mg [] H H []:=⟨Same.refl H,λb o e=>by
  rcases hO b with z | ⟨u,l,z⟩
  ·rw[e] at z;cases z
  ·rw[e] at z;cases z;rfl,List.nodup_nil,rfl,(λ_ z=>nomatch z),λn b o z=>by cases z⟩
 refine⟨[.lst (ns.map D.int)],[],H,[],.bl true,d,r,⟨.inl (Rp.mkL hS (Rps.ofInts ns)),trivial⟩,e,λv i x j g m f=>?_⟩;rw[Rp.unB f];exact q i
def keyOf:D->Option Key
 | .int i=>some (.inl i)
 | .str l=>some (.inr (S l))
 | _=>none
theorem Rp.key{K:Frag}{F:Hp}{as:List Addr}{v:V}{d:D}{k:Key}(h:Rp K F as v d)(e:keyOf d=some k):v=kV k:=by
 cases d with
 |int i=>cases e;exact h.unI
 |str l=>cases e;exact h.unS
 | _=>cases e
section
variable {X:Cx}{md:List Md}{P:Pt}
def Prs(K:Frag)(F:Hp)(as:List Addr):List (V×V)->List (D×D)->Prop
 | [],[]=>True
 |p::ps,d::ds=>Rp K F as p.1 d.1/\Rp K F as p.2 d.2/\Prs K F as ps ds
 | _,_=>False
def DPE(X:Cx)(md:List Md)(P:Pt)(g:Pos)(keys:List (Option Expr))(values:List Expr)(m:M (List (D×D))):Prop:=∃b:List (TE×TE),
 PPs X g keys values b/\∀σ H Q,(∃ρ O F c i j,RlO X.K X.mg O H F c/\SlO X.K md P ρ σ H F c/\m ρ O=.ok i j/\∀h d f a,Gr H F c d f a->RlO X.K X.mg j d f a->Prs X.K f a h i->Q h d)->vA b σ H Q
def Yt:M (List (D×D)):=λ_ O=>.ok [] O
def Yu(f d:M D)(r:M (List (D×D))):M (List (D×D)):=λρ O=>(f ρ O).bind λa i=>(d ρ i).bind λb h=>(r ρ h).bind λc g=>.ok ((a,b)::c) g
def keysOf:List (D×D)->Option (List Key)
 | []=>some []
 | (a,_)::r=>(keyOf a).bind λk=>(keysOf r).map (k :: ·)
def Yv(m:M (List (D×D))):M D:=λρ O=>(m ρ O).bind λa c=>match keysOf a with
 |some b=>if b.Nodup/\a.length<=15 then .ok (.dic (a.map (·.1)) (a.map (·.2))) c else .no
 |none=>.no
end
section
variable {X:Cx}{md:List Md}{P:Pt}{k:Nat}{c x m:Str}{ps:List Str}{p pos apos:Pos}{o e:Expr}{es:List Expr}{pm:List Md}{cf:List D->ak->Res D}{mo:M D}{ma:M (List D)}
theorem bL(C:Can X.prog X.w X.K X.mg X.base x ps k (vSp X.K X.mg pm (rV X.K) cf))(d:bA k X.A)(h:AE X md P pm (e::es) ma)(f:Gl X x:=by rfl)(b:(x == ("__debug__":Str))=false:=by decide)(g:starEach (e::es) X.env=(false,eval e X.env)::starEach es X.env:=by exact di rfl)(a:(backTo pos (starEach es X.env)).any (·.1)=false:=by exact eU rfl):
  VE X md P (.Call (.Name x p) (e::es) [] pos) (aH cf ma):=Ka b8 C d h f b g a
theorem fc(C:Can X.prog X.w X.K X.mg X.base x ps k (vSp X.K X.mg pm (rO X.K) cf))(d:bA k X.A)(h:AE X md P pm (e::es) ma)(f:Gl X x:=by rfl)(b:(x == ("__debug__":Str))=false:=by decide)(g:starEach (e::es) X.env=(false,eval e X.env)::starEach es X.env:=by exact di rfl)(a:(backTo pos (starEach es X.env)).any (·.1)=false:=by exact eU rfl):
  OE X md P (.Call (.Name x p) (e::es) [] pos) (aH cf ma):=Ka dD C d h f b g a
theorem vN{pl:Sem Bool}(M:iw X.prog X.w X.K X.mg X.base c m ps k (vSp X.K X.mg (.v::pm) (rV X.K) cf))(g:bA k X.A)(h:VE X md P o mo)(i:AE X md P pm (e::es) ma)(a:starEach (e::es) X.env=(false,eval e X.env)::starEach es X.env:=by exact di rfl)(b:(backTo pos (starEach es X.env)).any (·.1)=false:=by exact eU rfl)
  (d:eval (.Call (.Attribute o m apos) (e::es) [] pos) X.env=(do
   let ov <-eval o X.env
   standAt apos.atName
   let (f,first) <-holding [ov] (getMethod ov m pl)
   callWith pos f first (backTo pos (starEach (e::es) X.env)) (backToKw pos (keywordEach [] X.env))):=by rfl):VE X md P (.Call (.Attribute o m apos) (e::es) [] pos) (cI c m cf mo ma):=KJ b8 M g h i a b d
theorem Bm{pl:Sem Bool}(M:iw X.prog X.w X.K X.mg X.base c m ps k (vSp X.K X.mg (.v::pm) (rO X.K) cf))(g:bA k X.A)(h:VE X md P o mo)(i:AE X md P pm (e::es) ma)(a:starEach (e::es) X.env=(false,eval e X.env)::starEach es X.env:=by exact di rfl)(b:(backTo pos (starEach es X.env)).any (·.1)=false:=by exact eU rfl)
  (d:eval (.Call (.Attribute o m apos) (e::es) [] pos) X.env=(do
   let ov <-eval o X.env
   standAt apos.atName
   let (f,first) <-holding [ov] (getMethod ov m pl)
   callWith pos f first (backTo pos (starEach (e::es) X.env)) (backToKw pos (keywordEach [] X.env))):=by rfl):OE X md P (.Call (.Attribute o m apos) (e::es) [] pos) (cI c m cf mo ma):=KJ dD M g h i a b d
theorem KR{pl:Sem Bool}(M:iw X.prog X.w X.K X.mg X.base c m ps k (vSp X.K X.mg [.v] (rV X.K) cf))(b:bA k X.A)(d:VE X md P o mo)
  (a:eval (.Call (.Attribute o m apos) [] [] pos) X.env=(do
   let ov <-eval o X.env
   standAt apos.atName
   let (f,first) <-holding [ov] (getMethod ov m pl)
   callWith pos f first (backTo pos (starEach [] X.env)) (backToKw pos (keywordEach [] X.env))):=by rfl):VE X md P (.Call (.Attribute o m apos) [] [] pos) (cI c m cf mo aq):=Yk b8 M b d a
end
section
variable {X:Cx}{md:List Md}{P:Pt}{R:RR}{elts:List Expr}{x1:Nat}{tpos:Pos}
def kJ:List D->List D->List D
 |d::ds,e::es=>.tup [d,e]::kJ ds es
 | _,_=>[]
def KY(b a:M D):M (List D):=λρ O=>(b ρ O).bind λd f=>(a ρ f).bind λe c=>match d,e with
 | .lst ds,.lst es=>.ok (kJ ds es) c
 | _,_=>.no
def tO(m:MS):MS:=λρ O=>match m ρ O with
 | .rt d O'=>.rt d O'
 | _=>.no
theorem SlO.toV{K:Frag}{ρ:az}{σ:St}{H F g:Hp}{as:List Addr}{i:Nat}(s:SlO K md P ρ σ H F as)(G:md[i]?=some .o)(ff:Same F g)
  (f:∀(j:Nat) (ds:List D) (a:Addr),j≠i->md[j]?=some .o->ρ[j]?=some (some (.lst ds))->σ[j]?=some (some (.ref a))->g a=F a)
  (hv:∀d,ρ[i]?=some (some d)->∃v,σ[i]?=some (some v)/\Rp K g as v d):SlO K (md.set i .v) P ρ σ H g as:=by
 have hi:i<md.length:=(zl.mp G).1
 have back:∀(j:Nat),(md.set i Md.v)[j]?=some Md.o->j≠i/\md[j]?=some .o:=λj e=>by
  by_cases b:j=i
  ·subst b;rw[zN hi] at e;cases e
  ·rw[zm (Ne.symm b)] at e;exact⟨b,e⟩
 refine⟨by rw[zX];exact s.len,by rw[zX];exact s.len',s.pd,λj m d c C=>?_,λj k a ds W h1 h2 h3 h4 U T=>s.inj j k a ds W (back j h1).2 (back k h2).2 h3 h4 U T,λx Q=>?_⟩
 ·by_cases b:j=i
  ·subst b;rw[zN hi] at c;cases c;exact hv d C
  ·rw[zm (Ne.symm b)] at c;obtain⟨v,q,t⟩:=s.sl j m d c C;refine⟨v,q,?_⟩
   cases m with
   |v=>exact Rp.mono ff (λ_ _ z=>z) _ t
   |s =>
    rcases t with t | ⟨a,h,ds,J,I,u,r,n,l⟩
    ·exact .inl (Rp.mono ff (λ_ _ z=>z) _ t)
    ·exact .inr ⟨a,h,ds,J,I,u,r,n,Rps.mono ff (λ_ _ z=>z) _ l⟩
   |o =>
    rcases t with⟨y,t⟩ | ⟨a,h,ds,rfl,rfl,u,y,r,n,l⟩
    ·exact .inl ⟨y,Rp.mono ff (λ_ _ z=>z) _ t⟩
    ·exact .inr ⟨a,h,ds,rfl,rfl,u,by rw[f j ds a b c C q];exact y,r,n,Rps.mono ff (λ_ _ z=>z) _ l⟩
 ·obtain⟨B,O,L⟩:=s.pin x Q
  have E:i≠x.1:=λz=>by rw[<-z,G] at B;cases B
  exact⟨by rw[zm E];exact B,O,L⟩
theorem Yw{K:Frag}{mg:Str->Option Value}{i:Nat}{m:MS}(n:md[i]?=some .o){D:Ends}{σ:St}{H:Hp}(q:tMS K mg md P R (tO m) D σ H):tMS K mg (md.set i .v) P R m D σ H:=by
 obtain⟨ρ,O,F,B,r,s,k⟩:=q;unfold tO at k
 cases e:m ρ O with
 |rt d O' =>
  rw[e] at k
  by_cases G:∃x,ρ[i]?=some (some (.lst x))
  ·obtain⟨x,l⟩:=G;obtain⟨a,y,h1,h2,h3,h4,Y,W⟩:=s.own n l
   have ff:Same F (upd F a (.lst y)):=λb u q=>by rw[aO (cN q h3)];exact q
   have Z:GrS P H F B H (upd F a (.lst y)) B:=⟨λc _ p _ _ _=>aO (λz=>Y (by rw[<-z];exact p)),ff,⟨[],by simp,λ_ h=>nomatch h⟩,λ_ _ _ h _ _=>h,λ_ h=>h,λ_ _ _ h=>h⟩;refine⟨ρ,O,upd F a (.lst y),B,r.frz h2 h3 h4 rfl,s.toV n ff (λj es b U Q L E=>?_) (λI f=>?_),?_⟩
   ·refine aO λz=>U ?_
    rw[z] at E;exact s.inj j i a es x Q n L l E h1
   ·rw[l] at f;cases f;exact⟨_,h1,Rp.mkL (.inl (.inl bN)) (Rps.mono ff (λ_ _ z=>z) _ W)⟩
   ·rw[e]
    exact λv H' F' C g J T=>k v H' F' C (Z.trans g) J T
  ·refine⟨ρ,O,F,B,r,s.toV n (Same.refl F) (λ_ _ _ _ _ _ _=>rfl) (λI f=>?_),by rw[e];exact k⟩;obtain⟨v,h1,h2⟩:=s.sl i .o I n f
   rcases h2 with⟨_,h2⟩ | ⟨a,y,x,_,rfl,_⟩
   ·exact⟨v,h1,h2⟩
   ·exact absurd ⟨x,f⟩ G
 | _=>rw[e] at k;exact False.elim k
theorem Yx(i:Nat){st:Stmt}{m:MS}(a:md[i]?=some .o)(h:VS X (md.set i .v) P R st m):VS X md P R st (tO m):=h.imp λ_ _ _=>Yw a
end
section
variable {prog:Program}{w:World}{A:Around}{E:Value->Shared->Prop}
end
section
variable {X:Cx}{md:List Md}{P:Pt}{R:RR}
def mMl(m:M D):M D:=λρ O=>(m ρ O).bind λd a=>match d with
 | .lst ds=>.ok (.ob a.length) (a++[.ml ds])
 |d=>.ok d a
theorem Bo{as:List Addr}{a:Addr}:∀(n:Nat) (c:Addr),as[n]?=some c->(as++[a])[n]?=some c:=λn c h=>by
 rw[zA (zl.mp h).1];exact h
theorem RlO.snocMl{K:Frag}{mg:Str->Option Value}{O:ak}{H F:Hp}{as:List Addr}{a:Addr}{xs:List V}{ds:List D}(r:RlO K mg O H F as)(j:H a=some (.lst xs))(l:F a=none)(i:a∉as)(h:Rps K F as xs ds):RlO K mg (O++[.ml ds]) H F (as++[a]):=by
 refine⟨r.fh,r.fd,jo.mpr ⟨r.nd,by simp,λc b d hd=>by rw[zk.mp hd];exact λz=>i (z ▸ b)⟩,by rw[zn,zn,r.len];rfl,λc b=>?_,λn c o b f=>?_⟩
 ·rcases zz.mp b with b | b
  ·exact r.fa c b
  ·rw[zk.mp b];exact l
 ·by_cases g:n<as.length
  ·rw[zA g] at b;rw[zA (by rw[<-r.len];exact g)] at f;exact(r.ob n c o b f).keep rfl (Same.refl F) Bo
  ·have hn':n=as.length:=by
    have:=(zl.mp b).1
    rw[zn,zV] at this;omega
   subst hn';rw[zC (zb _),Nat.sub_self] at b;rw[r.len,zC (zb _),Nat.sub_self] at f;cases b;cases f;exact⟨xs,j,Rps.mono (Same.refl F) Bo _ h⟩
theorem Yy{e:Expr}{m:M D}(h:OE X md P e m):VE X md P e (mMl m):=h.imp λσ H Q q=>by
 obtain⟨ρ,O,F,U,d,Z,r,s,e,k⟩:=q;obtain⟨x,Y,L,e⟩:=Res.bind_ok e;refine⟨ρ,_,F,U,_,_,r,s,L,λv u y g b i j=>?_⟩
 rcases j with⟨z,j⟩ | ⟨a,W,T,rfl,rfl,J,I,G,E,C⟩
 ·cases x with
  |lst T=>cases z
  | _=>cases e;exact k v u y g b i j
 ·cases e;obtain⟨l,B,n⟩:=b.nw;refine k (.ref a) u y (g++[a]) ⟨b.fz,b.ff,⟨l++[a],by rw[B,zI],λc f=>?_⟩,b.fr,b.dm,b.kz⟩ (i.snocMl J I G C) (Rp.mkO ?_)
  ·rcases zz.mp f with f | f
   ·exact n c f
   ·rw[zk.mp f];exact E
  ·rw[<-i.len,zC (zb _),Nat.sub_self];rfl
theorem tQ{H F:Hp}{as:List Addr}{a:Addr}{h:HO}(f:a∈as)(b:H a=some h){o:HO}(d:∀o u,h≠.frz o u:=by intro _ _ z;cases z):Gr H F as (upd H a o) F as :=
 ⟨λ_ _ _ _ _=>rfl,Same.refl F,⟨[],by simp,λ_ h=>nomatch h⟩,λc u e hn _=>by rw[aO (λz=>hn (by rw[z];exact f))];exact e,λc e=>by
  by_cases h:c=a
  ·subst h;rw[bN] at e;cases e
  ·rwa [aO h] at e,λc g u e=>by rw[aO (λz=>by rw[z,b] at e;cases e;exact d _ _ rfl)];exact e⟩
theorem RlO.mutO{K:Frag}{mg:Str->Option Value}{O:ak}{H F:Hp}{as:List Addr}{n:Nat}{a:Addr}{xs:List V}{ds:List D}(r:RlO K mg O H F as)(d:as[n]?=some a)(q:Rps K F as xs ds):RlO K mg (O.set n (.ml ds)) (upd H a (.lst xs)) F as:=by
 have x:=zR d;refine⟨λc u e=>?_,r.fd,r.nd,by rw[zX];exact r.len,r.fa,λm c o f b=>?_⟩
 ·rw[aO (λz=>by rw[z,r.fa a x] at e;cases e)];exact r.fh c u e
 ·by_cases g:m=n
  ·subst g;rw[d] at f;cases f
   have i:m<O.length:=by rw[<-r.len];exact(zl.mp d).1
   rw[zN i] at b;cases b;exact⟨xs,bN,q⟩
  ·rw[zm (Ne.symm g)] at b
   refine(r.ob m c o f b).keep (aO λz=>g ?_) (Same.refl F) λ_ _ h=>h
   obtain⟨y,j⟩:=zl.mp f;obtain⟨B,l⟩:=zl.mp d;exact(List.getElem_inj r.nd).mp (j.trans (z.trans l.symm))
theorem RlO.ml{K:Frag}{mg:Str->Option Value}{O:ak}{H F:Hp}{as:List Addr}{n:Nat}{a:Addr}{ds:List D}(r:RlO K mg O H F as)(b:as[n]?=some a)(c:O[n]?=some (.ml ds)):∃xs,H a=some (.lst xs)/\Rps K F as xs ds:=r.ob n a _ b c
def tR(mo m:M D):MS:=λρ O=>match mo ρ O with
 | .ok (.ob n) O1=>match O1[n]? with
  |some (.ml _)=>match m ρ O1 with
   | .ok d O2=>match O2[n]? with
    |some (.ml ds)=>if ds.length<1000000 then .nx ρ (O2.set n (.ml (ds++[d]))) else .no
    | _=>.no
   | _=>.no
  | _=>.no
 | _=>.no
theorem Yz{o e:Expr}{apos b l:Pos}{mo m:M D}(ho:VE X md P o mo)(h:VE X md P e m)
  (j:attributeBase o "append" X.env (eval o X.env)=eval o X.env:=by rfl)
  (u:((backTo b (starEach [e] X.env)).all (λx=>!x.1)&&(backToKw b (keywordEach [] X.env)).all (λx=>x.1.isSome)&&decide ([e].length+([]:List Keyword).length+(if([]:List Keyword).isEmpty then 0 else 1)<30))=true:=by rfl)
  (i:(apos.endLine == b.line)=true:=by rfl) (W:starEach [e] X.env=(false,eval e X.env)::starEach [] X.env:=by exact di rfl) (c:(backTo b (starEach [] X.env)).any (·.1)=false:=by exact eU rfl)
  (G:swapsWith (.Call (.Attribute o "append" apos) [e] [] b) none l.line X.env=pure false:=by rfl):
  VS X md P R (.Expr (.Call (.Attribute o "append" apos) [e] [] b) l) (tR mo m):=
 (rH (Af PySem.F.plainAttrs_list PySem.F.slot_list_append PySem.F.type_list_append Jr ho (nA h oZ W) j u i W c) G).imp λD σ H q=>by
  obtain⟨ρ,O,F,as,r,s,k⟩:=q;unfold tR at k;split at k
  ·rename_i n O1 e1;split at k
   ·rename_i ds0 e2;split at k
    ·rename_i d O2 e3;split at k
     ·rename_i ds e4;split at k
      ·rename_i hz;refine⟨ρ,O,F,as,_,_,r,s,e1,λv H1 F1 I B U hv=>?_⟩;obtain⟨a,rfl,Y⟩:=Rp.unO hv;obtain⟨E,x1,x2⟩:=U.ml Y e2;refine⟨.inl ⟨rfl,E,.inl (.inl x1)⟩,ρ,O1,F1,I,d,O2,U,s.step B,e3,λy H2 C g z T hy=>?_⟩;have f:=z.at_ n a Y;obtain⟨Q,L,J⟩:=T.ml f e4;have Z:Gr H2 C g (upd H2 a (.lst (Q++[y]))) C g:=tQ (zR f) L;exact⟨a,Q,y,rfl,rfl,L,by rw[J.length];exact zJ hz (by decide),k σ _ C g ((B.trans z).trans Z).toS (T.mutO f (J.snoc hy)) (s.step ((B.trans z).trans Z))⟩
      ·exact False.elim k
     ·exact False.elim k
    ·exact False.elim k
   ·exact False.elim k
  ·exact False.elim k
def mD(n:Nat)(all:List D)(g:MG)(b:MS):List D->MS
 | [],ρ,O=>match O[n]? with
  |some (.ml es)=>if es.length=all.length then .nx ρ O else .no
  | _=>.no
 |d::ds,ρ,O=>match O[n]? with
  |some (.ml es)=>match es[all.length - (ds.length+1)]? with
   |some c=>match g c ρ with
    |none=>.no
    |some a=>match b a O with
     | .nx ρ2 O2=>mD n all g b ds ρ2 O2
     | .ct ρ2 O2=>mD n all g b ds ρ2 O2
     | .bk ρ2 O2=>.nx ρ2 O2
     |r=>r
   |none=>.no
  | _=>.no
def mF(m:M D)(g:MG)(b:MS):MS:=λρ O=>match m ρ O with
 | .ok (.ob n) O'=>match O'[n]? with
  |some (.ml ds)=>mD n ds g b ds ρ O'
  | _=>.no
 | .ok (.lst ds) O'=>bK g b ds ρ O'
 | _=>.no
theorem YB{K:Frag}{mg:Str->Option Value}{m:M D}{g:MG}{b:MS}{n:Nat}{ds:List D}{D:Ends}{σ:St}{H F:Hp}{as:List Addr}{ρ:az}{O O1:ak}(r:RlO K mg O H F as)(s:SlO K md P ρ σ H F as)(e:m ρ O=.ok (.ob n) O1)(e2:O1[n]?=some (.ml ds))
  (k:g8 K mg md P R D H F as (mD n ds g b ds ρ O1)):yR (yQ K (tM K mg md P (rW K P) m)) (tMG K mg md P g) (tMS K mg md P R b) D σ H:=by
 refine⟨ρ,O,F,as,_,_,r,s,e,λv H1 F1 C g1 r1 hv=>?_⟩
 have hv':Rp K F1 C v (.ob n):=by
  rcases hv with hv | ⟨a,U,ds',_,z,_⟩
  ·exact hv
  ·cases z
 obtain⟨a,rfl,ha⟩:=Rp.unO hv';obtain⟨xs0,x1,x2⟩:=r1.ml ha e2;have k1:=gq (R:=R) g1.toS k;refine⟨a,rfl,⟨xs0,.inl (.inl x1)⟩,λi m Q L=>m=ds.length - i/\i<=ds.length/\∃B W G f,GrS P H1 F1 C L G f/\RlO K mg W L G f/\SlO K md P B Q L G f/\g8 K mg md P R D L G f (mD n ds g b (ds.drop i) B W),⟨ds.length,by simp,Nat.zero_le _,ρ,O1,F1,C,GrS.refl,r1,s.step g1,by rw[List.drop_zero];exact k1⟩,?_⟩;rintro i t Q L ⟨rfl,hi,B,W,G,f,g',r',s',k'⟩;have ha':=g'.at_ n a ha
 by_cases hlt:i<ds.length
 ·rw[List.drop_eq_getElem_cons hlt] at k';unfold mD at k';split at k'
  ·rename_i es ee;obtain⟨U,y1,y2⟩:=r'.ml ha' ee
   have hidx:ds.length - ((ds.drop (i+1)).length+1)=i:=by rw[List.length_drop];omega
   rw[hidx] at k';split at k'
   ·rename_i d' ed;obtain⟨x,hx,rx⟩:=y2.get' ed;have Z:SqL K L a U:=.inl (.inl y1);refine .inr ⟨⟨U,x,Z,hx⟩,λj q=>∃h E l c,GrS P H1 F1 C q l c/\RlO K mg E q l c/\SlO K md P h j q l c/\g8 K mg md P R D q l c (mD n ds g b (ds.drop (i+1)) h E),λj q h2=>⟨ds.length - (i+1),by omega,rfl,hlt,h2⟩,λx' H3 y=>?_⟩;obtain⟨rfl,hy⟩:=y;have Y:=hy U Z;rw[hx] at Y;cases Y;split at k'
    ·exact False.elim k'
    ·rename_i T eg;refine⟨B,W,G,f,d',T,r',s',rx,eg,λσ4 s4=>?_⟩;refine⟨T,W,G,f,r',s4,?_⟩
     cases eb:b T W with
     |nx h E =>
      rw[eb] at k'
      exact λj q l c u J I=>⟨h,E,l,c,g'.trans u,J,I,gq u k'⟩
     |ct h E =>
      rw[eb] at k'
      exact λj q l c u J I=>⟨h,E,l,c,g'.trans u,J,I,gq u k'⟩
     |bk h E =>
      rw[eb] at k'
      exact λj q l c u J I=>k' j q l c u J I
     |rt d E =>
      rw[eb] at k'
      exact λv q l c u J I=>k' v q l c u J I
     |ex _ _=>rw[eb] at k';exact False.elim k'
     |no=>rw[eb] at k';exact False.elim k'
   ·exact False.elim k'
  ·exact False.elim k'
 ·have hi':i=ds.length:=by omega
  subst hi';rw[List.drop_length] at k';unfold mD at k';split at k'
  ·rename_i es ee;split at k'
   ·rename_i hl;obtain⟨U,y1,y2⟩:=r'.ml ha' ee;exact .inl ⟨⟨U,.inl (.inl y1),by rw[y2.length,hl];exact zb _⟩,k' Q L G f GrS.refl r' s'⟩
   ·exact False.elim k'
  ·exact False.elim k'
theorem KZ{d iter:Expr}{body:List Stmt}{c:Pos}{m:M D}{g:MG}{b:MS}(j:X.calm=true)(hi:WE X md P iter m)(i:VG X md P d g)(hb:VSs X md P R body b)(h:PassesOwn (model X.prog X.w) X.A X.env X.xe:=by exact PassesOwn.never)
  (f:∀x,foldedSetIterable iter X.env x=pure x:=by intro _;rfl):VS X md P R (.For d iter body [] c) (mF m g b):=λpins s σ H D I q=>by
 obtain⟨ρ,O,F,z,r,sl,k⟩:=q;unfold mF at k;split at k
 ·rename_i n u a;split at k
  ·rename_i l y;exact Ik h j (vf hi) i hb f pins s σ H D I (YB r sl a y k)
  ·exact False.elim k
 ·rename_i l u a;refine fH j (Kr hi) i hb h f pins s σ H D I ⟨ρ,O,F,z,r,sl,?_⟩;unfold cA
  have:pM m ρ O=.ok l u:=by unfold pM;rw[a];rfl
  rw[this];exact k
 ·exact False.elim k
end
def Bp(K:Frag)(mg:Str->Option Value)(x:Str)(ls:List (List Nat)):Prop:=∃(a:Addr) (o:Obj) (b:Array Value) (n:Nat),mg x=some (.ref a)/\K.lookup a=some o/\o.cls=.type "tuple"/\o.data=.seq b n/\b.size<=sizeLine/\aU (ls.map λl=>V.str (S l)) b.toList
theorem Rps.texts{K:Frag}{F:Hp}{as:List Addr}:∀ls:List (List Nat),Rps K F as (ls.map λl=>V.str (S l)) (ls.map D.str)
 | []=>Rps.nil
 |l::ls=>Rps.cons Rp.str (Rps.texts ls)
theorem YC{X:Cx}{md:List Md}{P:Pt}{x:Str}{ls:List (List Nat)}{b:Pos}(h:Bp X.K X.mg x ls)(j:Gl X x:=by rfl)(f:(x == ("__debug__":Str))=false:=by decide):VE X md P (.Name x b) (mC (.tup (ls.map D.str))):=by
 obtain⟨a,o,c,n,g,i,h1,h2,h3,h4⟩:=h
 refine(JN (v:=.ref a) ⟨_,g,rfl⟩ j f).imp λσ H Q q=>?_
 obtain⟨ρ,O,F,l,d,m,r,s,e,k⟩:=q;cases e;exact k _ H F l Gr.refl r (Rp.mkT (.inr ⟨o,c,n,i,h1,h2,h3,h4⟩) (Rps.texts ls))
theorem bO{α:Type}{p:List α->Prop}(h:p []):∀us:List α,us.length=0->p us:=λus e=>by
 cases us with
 |nil=>exact h
 |cons a b=>cases e
theorem aQ{α:Type}{p:List α->Prop}{n:Nat}(h:∀a,∀us:List α,us.length=n->p (a::us)):∀us:List α,us.length=n+1->p us:=λus e=>by
 cases us with
 |nil=>cases e
 |cons a b=>exact h a b (Nat.succ.inj e)
section
variable {prog:Program}{w:World}{κ:Type}[DecidableEq κ]{knd:HeapKind prog w κ}{A:Around}{E:Value->Shared->Prop}{s:Shared}
end
section
variable {X:Cx}{pins:List (Addr×Obj)}{σ:St}{H:Hp}{s:Shared}{a b:Addr}{v:V}{r:Value}{kvs:List (List Key×V)}{k:List Key}{A:Around}{E:Value->Shared->Prop}
end
def vO:List D->Option (List Key)
 | []=>some []
 | .int i::ds=>(vO ds).map (Sum.inl i :: ·)
 | _=>none
def tU:D->Option (List Key)
 | .tup (d::ds)=>vO (d::ds)
 | _=>none
theorem Rps.keys{K:Frag}{F:Hp}{as:List Addr}:∀{ds:List D}{xs:List V}{a:List Key},Rps K F as xs ds->vO ds=some a->xs=a.map kV/\∃is:List Int,a=is.map Sum.inl
 | [],xs,a,h,e=>by cases e;exact⟨h.un0,[],rfl⟩
 | .int i::ds,xs,a,h,e=>by
  obtain⟨x,r,rfl,h1,h2⟩:=h.un;obtain⟨d,c,rfl⟩:=Option.map_eq_some_iff.mp (show(vO ds).map (Sum.inl i :: ·)=some a from e);obtain⟨b,is,rfl⟩:=Rps.keys h2 c;exact⟨by rw[h1.unI,b];rfl,i::is,rfl⟩
 | .non::ds,xs,a,h,e=>by cases e
 | .bl _::ds,xs,a,h,e=>by cases e
 | .str _::ds,xs,a,h,e=>by cases e
 | .lst _::ds,xs,a,h,e=>by cases e
 | .tup _::ds,xs,a,h,e=>by cases e
 | .dic _ _::ds,xs,a,h,e=>by cases e
 | .ob _::ds,xs,a,h,e=>by cases e
def allI:List Value->Bool
 | []=>true
 | .int _ _::r=>allI r
 | _=>false
def bD:Frag->Bool
 | []=>true
 |p::r=>(match p.2.data with
  | .seq its _=>its.toList.isEmpty || !allI its.toList
  | _=>true)&&bD r
theorem K1{a:Addr}{o:Obj}{its:Array Value}{n:Nat}:∀{K:Frag},bD K=true->List.lookup a K=some o->o.data=.seq its n->(its.toList.isEmpty || !allI its.toList)=true
 | [],_,h,_=>by cases h
 |p::r,hk,h,hd=>by
  unfold bD at hk;rw[zu] at hk;rw[List.lookup_cons] at h;split at h
  ·cases h
   have:=hk.1
   rw[hd] at this;exact this
  ·exact K1 hk.2 h hd
theorem K3:∀{is:List Int}{us:List Value},aU ((is.map (Sum.inl (β:=Str))).map kV) us->allI us=true
 | [],us,h=>by cases h;rfl
 |i::is,us,h=>by
  cases h with
  | @cons _ u _ us' r1 r2 =>
   obtain⟨t,rfl⟩:∃t,u=.int i t:=r1;show allI us'=true;exact K3 (is:=is) r2
theorem Rp.tkey{K:Frag}{F:Hp}{as:List Addr}{v:V}{d:D}{c:List Key}(i:bD K=true)(h:Rp K F as v d)(e:tU d=some c):∃b,v=.ref b/\F b=some (.tup (c.map kV)):=by
 cases d with
 |tup ds =>
  cases ds with
  |nil=>cases e
  |cons d ds =>
   obtain⟨b,l,rfl,h1,h2⟩:=h.unT';obtain⟨ex,m,rfl⟩:=h2.keys e
   rcases h1 with h1 | ⟨o,j,n,g,_,f,_,a⟩
   ·exact⟨b,rfl,by rw[h1,ex]⟩
   ·exfalso
    have q:=K1 i g f;rw[ex] at a;rw[K3 a,Bool.not_true,Bool.or_false,List.isEmpty_iff] at q;rw[q,<-ex] at a;obtain⟨x,r,rfl,_,_⟩:=h2.un;cases a
 | _=>cases e
def gH(a:List (List Key×D))(k:List Key):Option D:=(a.find? λp=>decide (p.1=k)).map (·.2)
def nY(a:List (List Key×D))(k:List Key)(d:D):List (List Key×D):=
 if(a.any λp=>decide (p.1=k))=true then a.map (λp=>if p.1=k then(p.1,d) else p) else a++[(k,d)]
def DtR(K:Frag)(F:Hp)(as:List Addr)(xs:List (List Key×V))(a:List (List Key×D)):Prop:=xs.map (·.1)=a.map (·.1)/\Rps K F as (xs.map (·.2)) (a.map (·.2))
section
variable {K:Frag}{mg:Str->Option Value}{O:ak}{H F H' F':Hp}{as as':List Addr}
theorem DtR.len{xs:List (List Key×V)}{a:List (List Key×D)}(h:DtR K F as xs a):xs.length=a.length:=by
 have:=congrArg List.length h.1
 simpa using this
theorem DtR.un{xs:List (List Key×V)}{p:List Key×D}{a:List (List Key×D)}(h:DtR K F as xs (p::a)):∃v r,xs=(p.1,v)::r/\Rp K F as v p.2/\DtR K F as r a:=by
 obtain⟨h1,h2⟩:=h
 cases xs with
 |nil=>cases h1
 |cons x r =>
  obtain⟨v,f,e,d,c⟩:=h2.un;cases e;rw[ze,ze] at h1;have b:=(List.cons.inj h1).1;refine⟨x.2,r,?_,d,(List.cons.inj h1).2,c⟩;rw[<-b]
theorem DtR.val{k:List Key}:∀{a:List (List Key×D)}{xs:List (List Key×V)},DtR K F as xs a->(gH a k=none/\fG xs k=none)\/∃d v,gH a k=some d/\fG xs k=some v/\Rp K F as v d
 | [],xs,h=>by
  have:=h.len
  cases xs with
  |nil=>exact .inl ⟨rfl,rfl⟩
  |cons=>cases this
 |p::a,xs,h=>by
  obtain⟨v,r,rfl,h1,h2⟩:=h.un
  by_cases e:p.1=k
  ·exact .inr ⟨p.2,v,by simp[gH,List.find?_cons,e],rY e,h1⟩
  ·rw[show gH (p::a) k=gH a k by simp[gH,List.find?_cons,e],rZ (p:=(p.1,v)) e];exact DtR.val h2
theorem DtR.any{k:List Key}:∀{a:List (List Key×D)}{xs:List (List Key×V)},DtR K F as xs a->(xs.any λp=>decide (p.1=k))=a.any λp=>decide (p.1=k)
 | [],xs,h=>by
  have:=h.len
  cases xs with
  |nil=>rfl
  |cons=>cases this
 |p::a,xs,h=>by
  obtain⟨v,r,rfl,h1,h2⟩:=h.un;rw[List.any_cons,List.any_cons,DtR.any h2]
theorem DtR.repl{k:List Key}{v:V}{d:D}(hv:Rp K F as v d):∀{a:List (List Key×D)}{xs:List (List Key×V)},DtR K F as xs a ->
  DtR K F as (xs.map λp=>if p.1=k then(p.1,v) else p) (a.map λp=>if p.1=k then(p.1,d) else p)
 | [],xs,h=>by
  have:=h.len
  cases xs with
  |nil=>exact⟨rfl,Rps.nil⟩
  |cons=>cases this
 |p::a,xs,h=>by
  obtain⟨u,r,rfl,h1,h2⟩:=h.un;obtain⟨c,b⟩:=DtR.repl (k:=k) hv h2
  by_cases e:p.1=k
  ·rw[ze,ze,if_pos e,if_pos e];exact⟨by rw[ze,ze,c],Rps.cons hv b⟩
  ·rw[ze,ze,if_neg e,if_neg e];exact⟨by rw[ze,ze,c],Rps.cons h1 b⟩
theorem DtR.put{xs:List (List Key×V)}{a:List (List Key×D)}(h:DtR K F as xs a)(k:List Key){v:V}{d:D}(hv:Rp K F as v d):DtR K F as (putK xs k v) (nY a k d):=by
 unfold putK nY;rw[h.any]
 split
 ·exact h.repl hv
 ·exact⟨by rw[zK,zK,h.1];rfl,by rw[zK,zK];exact Rps.snoc h.2 hv⟩
theorem RlO.dt{n:Nat}{a:Addr}{b:List (List Key×D)}(r:RlO K mg O H F as)(c:as[n]?=some a)(d:O[n]?=some (.dt b)):∃xs,H a=some (.dT xs)/\DtR K F as xs b:=let ⟨xs,h1,h2,h3⟩:=r.ob n a _ c d;⟨xs,h1,h2,h3⟩
theorem RlO.snocO{a:Addr}{o:Ob}(r:RlO K mg O H F as)(j:F a=none)(i:a∉as)(h:ObR K mg H F (as++[a]) a o):RlO K mg (O++[o]) H F (as++[a]):=by
 refine⟨r.fh,r.fd,jo.mpr ⟨r.nd,by simp,λc b d hd=>by rw[zk.mp hd];exact λz=>i (z ▸ b)⟩,by rw[zn,zn,r.len];rfl,λc b=>?_,λn c u b f=>?_⟩
 ·rcases zz.mp b with b | b
  ·exact r.fa c b
  ·rw[zk.mp b];exact j
 ·by_cases g:n<as.length
  ·rw[zA g] at b;rw[zA (by rw[<-r.len];exact g)] at f;exact(r.ob n c u b f).keep rfl (Same.refl F) Bo
  ·have hn':n=as.length:=by
    have:=(zl.mp b).1
    rw[zn,zV] at this;omega
   subst hn';rw[zC (zb _),Nat.sub_self] at b;rw[r.len,zC (zb _),Nat.sub_self] at f;cases b;cases f;exact h
theorem RlO.mutG{n:Nat}{a:Addr}{o:Ob}{h:HO}(r:RlO K mg O H F as)(d:as[n]?=some a)(q:ObR K mg (upd H a h) F as a o):RlO K mg (O.set n o) (upd H a h) F as:=by
 have x:=zR d;refine⟨λc u e=>?_,r.fd,r.nd,by rw[zX];exact r.len,r.fa,λm c u f b=>?_⟩
 ·rw[aO (λz=>by rw[z,r.fa a x] at e;cases e)];exact r.fh c u e
 ·by_cases g:m=n
  ·subst g;rw[d] at f;cases f
   have i:m<O.length:=by rw[<-r.len];exact(zl.mp d).1
   rw[zN i] at b;cases b;exact q
  ·rw[zm (Ne.symm g)] at b
   refine(r.ob m c u f b).keep (aO λz=>g ?_) (Same.refl F) λ_ _ h=>h
   obtain⟨y,j⟩:=zl.mp f;obtain⟨B,l⟩:=zl.mp d;exact(List.getElem_inj r.nd).mp (j.trans (z.trans l.symm))
theorem RlO.unF{p:Addr}(r:RlO K mg O H F as)(a:H p=none):F p=none:=by
 cases e:F p with
 |none=>rfl
 |some o=>rw[r.fh p o e] at a;cases a
theorem Gr.snoc{p:Addr}{o:HO}(b:H p=none):Gr H F as (upd H p o) F (as++[p]):=
 ⟨λ_ _ _ _ _=>rfl,Same.refl F,⟨[p],rfl,λa h=>by rw[zk.mp h];exact b⟩,λa u e _ _=>by rw[aO (cN e b)];exact e,λa e=>by
  by_cases h:a=p
  ·subst h;exact b
  ·rwa [aO h] at e,λa c u e=>by rw[aO (cN e b)];exact e⟩
end
section
variable {X:Cx}{md:List Md}{P:Pt}{R:RR}
def tV:M D:=λ_ O=>.ok (.ob O.length) (O++[.dt []])
theorem K4{b:Pos}:VE X md P (.Dict [] [] b) tV:=Wj.imp λσ H Q q p a=>by
 obtain⟨ρ,O,F,c,d,f,r,s,e,k⟩:=q;cases e;refine k _ _ F (c++[p]) (Gr.snoc a) ((r.lay a).snocO (r.unF a) (λz=>r.all z a) ⟨[],bN,rfl,Rps.nil⟩) (Rp.mkO ?_);rw[<-r.len,zC (zb _),Nat.sub_self];rfl
def gJ(mo my a:M D):MS:=λρ O=>match a ρ O with
 | .ok d O1=>match mo ρ O1 with
  | .ok (.ob n) O2=>match my ρ O2 with
   | .ok y O3=>match tU y,O3[n]? with
    |some k,some (.dt kvs)=>if kvs.length<1000000 then .nx ρ (O3.set n (.dt (nY kvs k d))) else .no
    | _,_=>.no
   | _=>.no
  | _=>.no
 | _=>.no
theorem Bq{kk:Nat}(hk:bD X.K=true)(hr:bA kk X.A){o i value:Expr}{g pos':Pos}{mo my L:M D}(ho:VE X md P o mo)(hi:VE X md P i my)(hv:VE X md P value L)
  (hs:swapsWith value (some (.Subscript o i pos')) g.line X.env=pure false:=by rfl):VS X md P R (.Assign [.Subscript o i pos'] value g) (gJ mo my L):=
 (Jz (ph hr) ho hi hv hs).imp λD σ H q=>by
  obtain⟨ρ,O,F,as,r,s,k⟩:=q;unfold gJ at k;split at k
  ·rename_i d O1 e1;split at k
   ·rename_i n O2 e2;split at k
    ·rename_i y O3 e3;split at k
     ·rename_i Q kvs e4 e5;split at k
      ·rename_i hz;refine⟨ρ,O,F,as,_,_,r,s,e1,λv H1 W h z r1 hv=>⟨ρ,O1,W,h,_,_,r1,s.step z,e2,λx H2 F2 E m r2 hx=>⟨ρ,O2,F2,E,_,_,r2,s.step (z.trans m),e3,λu U B f l j hu=>?_⟩⟩⟩;obtain⟨a,rfl,ha⟩:=Rp.unO hx;have c:=l.at_ n a ha;obtain⟨G,J,I⟩:=j.dt c e5;obtain⟨b,rfl,hb⟩:=Rp.tkey hk hu e4;have C:=(show Rp X.K W h v d from hv).gr (m.trans l)
       have hl:G.length<sizeLine:=by rw[I.len];exact zJ hz (by decide)
       have g4:Gr U B f (upd U a (.dT (putK G Q v))) B f:=tQ (zR c) J;have T:=((z.trans m).trans l).trans g4;obtain⟨Z,Y⟩:=I.put Q C;exact⟨a,_,rfl,lN.t J (j.fh _ _ hb) hl,k σ _ B f T.toS (j.mutG c ⟨_,bN,Z,Y⟩) (s.step T)⟩
      ·exact False.elim k
     ·exact False.elim k
    ·exact False.elim k
   ·exact False.elim k
  ·exact False.elim k
end
section
variable {X:Cx}
open Classical in
noncomputable def eqR(s:Shared)(x:PyData)(u:Value):Bool:=decide (∃d a,Reads s.heap u d a/\d.canLay0=true/\PyData.eqv d x=true)
end
section
variable {X:Cx}{md:List Md}{P:Pt}{R:RR}
end
def cR(O:ak):Nat->D->D
 | 0,d=>d
 |n+1,.ob i=>match O[i]? with
  |some (.ml ds)=>.lst (ds.map (cR O n))
  | _=>.ob i
 |n+1,.lst ds=>.lst (ds.map (cR O n))
 |n+1,.tup ds=>.tup (ds.map (cR O n))
 | _+1,d=>d
section
variable {K:Frag}{mg:Str->Option Value}{O:ak}{H F:Hp}{as:List Addr}
theorem tW{n:Nat}(a:∀(d:D) (v:V),Rp K F as v d->dg (cR O n d)=true->Rep K H v (toP (cR O n d))):∀(ds:List D) (xs:List V),Rps K F as xs ds->kh (ds.map (cR O n))=true->cJ K H xs (fK (ds.map (cR O n)))
 | [],xs,h,_=>by rw[h.un0];exact cJ.nil
 |d::ds,xs,h,hp=>by
  obtain⟨x,r,rfl,h1,h2⟩:=h.un;rw[ze,kh,zu] at hp;rw[ze,fK];exact cJ.cons (a d x h1 hp.1) (tW a ds r h2 hp.2)
theorem tX(r:RlO K mg O H F as):∀(n:Nat) (d:D) (v:V),Rp K F as v d->dg (cR O n d)=true->Rep K H v (toP (cR O n d))
 | 0,d,v,h,hp=>Lk.rep (Or.inl h) r.fh hp
 |n+1,.ob i,v,h,hp=>by
  unfold cR at hp ⊢;split at hp
  ·rename_i c e;obtain⟨a,rfl,f⟩:=h.unO;obtain⟨b,h1,h2⟩:=r.ml f e;rw[dg] at hp;rw[toP,Rep];exact⟨a,b,rfl,.inl (.inl h1),tW (tX r n) c b h2 hp⟩
  ·cases hp
 |n+1,.lst c,v,h,hp=>by
  unfold cR at hp ⊢;obtain⟨a,b,rfl,h1,h2⟩:=h.unL;rw[dg] at hp;rw[toP,Rep];exact⟨a,b,rfl,(h1.mono r.fh).sq,tW (tX r n) c b h2 hp⟩
 |n+1,.tup c,v,h,hp=>by
  unfold cR at hp ⊢;obtain⟨a,b,rfl,h1,h2⟩:=h.unT;rw[dg] at hp;rw[toP,Rep];exact⟨a,b,rfl,Same.seqT r.fh h1,tW (tX r n) c b h2 hp⟩
 |n+1,.non,v,h,hp=>Lk.rep (Or.inl h) r.fh hp
 |n+1,.bl _,v,h,hp=>Lk.rep (Or.inl h) r.fh hp
 |n+1,.int _,v,h,hp=>Lk.rep (Or.inl h) r.fh hp
 |n+1,.str _,v,h,hp=>Lk.rep (Or.inl h) r.fh hp
 |n+1,.dic _ _,v,h,hp=>Lk.rep (Or.inl h) r.fh hp
theorem K5(r:RlO K mg O H F as){n:Nat}{d:D}{v:V}(h:Sv K H F as v d)(b:dg (cR O n d)=true):Rep K H v (toP (cR O n d)):=by
 rcases h with h | ⟨a,c,i,rfl,rfl,g,j,f⟩
 ·exact tX r n d v h b
 ·cases n with
  |zero=>exact Lk.rep (Or.inr ⟨a,c,i,rfl,rfl,g,f⟩) r.fh b
  |succ n =>
   unfold cR at b ⊢;rw[dg] at b;rw[toP,Rep];exact⟨a,c,rfl,.inl (.inl g),tW (tX r n) i c f b⟩
end
section
variable {X:Cx}{md:List Md}{P:Pt}{R:RR}
def nZ(a:Bool)(n:Nat)(c b:M D):M D:=λρ O=>(c ρ O).bind λx d=>(b ρ d).bind λy O2 =>
 if(okE (cR O2 n x)&&okE (cR O2 n y))=true then .ok (.bl (if a then !iQ (cR O2 n x) (cR O2 n y) else iQ (cR O2 n x) (cR O2 n y))) O2 else .no
theorem YD{K:Frag}{mg:Str->Option Value}{a:Bool}{n:Nat}{l j:M D}{σ:St}{H:Hp}{Q:VK}(h:tM K mg md P (rO K) (nZ a n l j) σ H Q):tOp (An K a) (tM K mg md P (rS K) l) (tM K mg md P (rS K) j) σ H Q:=by
 obtain⟨ρ,O,F,J,d,Z,r,sl,e,k⟩:=h;obtain⟨x,Y,I,e⟩:=Res.bind_ok e;obtain⟨y,W,G,e⟩:=Res.bind_ok e;split at e
 ·rename_i m;cases e;rw[zu] at m;obtain⟨c,b⟩:=m;unfold okE at c b;rw[zu] at c b;refine⟨ρ,_,F,J,_,_,r,sl,I,λv H1 U i z B C=>?_⟩;refine⟨ρ,_,U,i,_,_,B,sl.step z,G,λu L T g q f E=>?_⟩;exact⟨_,_,K5 f (Sv.gr C q) c.1,K5 f E b.1,c.2,b.2,k _ L T g (z.trans q) f (.inl ⟨rfl,Rp.bl⟩)⟩
 ·cases e
theorem YF(n:Nat){k:Nat}(g:bA k X.A){f d:Expr}{a:Pos}{c b:M D}(i:SE X md P f c)(hb:SE X md P d b):TsE X md P (.Compare f [.NotEq] [d] a) (aJ (nZ true n c b)):=
 (Iv (JM g) i hb (bJ _)).imp λσ H Q h=>by
  have q:=pA h;exact YD q
end
section
variable {X:Cx}{md:List Md}{P:Pt}{R:RR}
end
end L2
namespace L2
open PySem PySem.Spec PyProof.Rows PySem.W PySem.Calls
section
variable {prog:Program}{w:World}{A:Around}{E:Value->Shared->Prop}{s:Shared}{a:Addr}{vs out:List Value}{p:Array Nat}
end
section
variable {X:Cx}
end
structure K6(mg:Str->Option Value):Prop extends Blt mg where
 sorted_:mg "sorted" = none
end L2
namespace L2
open PySem PySem.Spec PyProof.Rows
abbrev iV(h:Heap)(z TI TO T:Addr)(b:Bool):Prop :=
 h.get? z=some {cls:=.type "zip",dict:=none,data:=.fields #[rawInt T,.bool b,.bool false,.ref TI,.ref TO],slots:=#[]}
section
variable {prog:Program}{w:World}{A:Around}{E:Value->Shared->Prop}{s:Shared}
theorem YG{a:Addr}{o:Obj}{Q:Option Obj->Shared->Prop}(h:s.heap.get? a=some o)(b:Q (some o) s):wpAny (model prog w) A (loadIfAlive a) Q E s:=by
 have:wpAny (model prog w) A (loadIfAlive a) Q E s↔wpAny (model prog w) A (pure (s.heap.get? a)) Q E s:=by
  unfold loadIfAlive wpAny;simp[Sem.wp_loadIfAlive]
 rw[this,h];exact zc b
theorem K7{z TI TO T:Addr}{b:Bool}{o:Obj}{Q:Bool->Shared->Prop}(hz:iV s.heap z TI TO T b)(f:s.heap.get? T=some o)
  (d:∀h',iV h' z TI TO T true->Heap.SameBut z s.heap h'->Q false {s with heap:=h'}):wpAny (model prog w) A (Builtin.SmallTypes.ownedTupleIsFree (.ref z)) Q E s:=by
 unfold Builtin.SmallTypes.ownedTupleIsFree;refine za (wpAny_field hz rfl (x:=rawInt T) rfl ?_);show wpAny _ _ (loadIfAlive ((T:Int).toNat) >>= _) _ _ _;rw[Int.toNat_natCast];refine za (YG f ?_);show wpAny _ _ (field (.ref z) 1 >>= _) _ _ _;refine za (wpAny_field hz rfl (x:=.bool b) rfl ?_)
 cases b with
 |true =>
  exact zc (d s.heap hz (Heap.SameBut.refl _ _))
 |false =>
  exact za (wpAny_setField_rec hz (by simp) λh1 a c=>zc (d h1 a c))
theorem YH{z TI TO T r q B u:Addr}{o:Obj}{b:Bool}{F C:Nat}{xs ys:Array Value}{x y:Value}{Q:Value->Shared->Prop}(D:ZipApart z TI TO r q B u)
  (hz:iV s.heap z TI TO T b) (U:s.heap.get? T=some o) (I:IsPair s.heap TI (.ref r) (.ref q))
  (h1:s.heap.IsListIter r B F) (h2:s.heap.IsListIter q u C) (H:s.heap.IsList B xs) (G:s.heap.IsList u ys) (R:xs[F]?=some x) (P:ys[C]?=some y)
  (W:∀h',iV h' z TI TO T true->h'.IsListIter r B (F+1)->h'.IsListIter q u (C+1)->IsPair h' s.heap.objs.size x y->h'.objs.size=s.heap.objs.size+1 ->
   (∀c o,c≠z->c≠r->c≠q->s.heap.get? c=some o->h'.get? c=some o)->Q (.ref s.heap.objs.size) {s with heap:=h'}):
  wpAny (model prog w) A (Builtin.«zip.__next__» ⟨[.ref z],[]⟩) (λi O=>∃v,i=.done (.ret v)/\Q v O) E s:=by
 show wpAny _ _ (field (.ref z) 2 >>= _) _ _ _;refine za (wpAny_field hz rfl (x:=.bool false) rfl ?_);show wpAny _ _ (field (.ref z) 3 >>= _) _ _ _;refine za (wpAny_field hz rfl (x:=.ref TI) rfl ?_);refine za (wpAny_seqItems I rfl ?_);show wpAny _ _ (Builtin.SmallTypes.ownedTupleIsFree (.ref z) >>= _) _ _ _;refine za (K7 hz U λL l a=>?_);simp only[Bool.false_eq_true,if_false];refine za ?_;simp only[<-Array.forIn_toList,List.forIn_cons,List.forIn_nil];refine za (za (zZ ?_));show wpAny _ _ (Builtin.SmallTypes.nextOf (.ref r) >>= _) _ _ _;refine za (wpAny_nextOf_list_item (h1.extBut a.extBut D.i1z) (H.extBut a.extBut D.l1z) R λJ n d=>zc (zc ?_))
 dsimp only;refine za (za (zZ ?_));show wpAny _ _ (Builtin.SmallTypes.nextOf (.ref q) >>= _) _ _ _;refine za (wpAny_nextOf_list_item ((h2.extBut a.extBut D.i2z).extBut d.extBut D.i12.symm) ((G.extBut a.extBut D.l2z).extBut d.extBut D.l2i1) P λg m f=>zc (zc ?_));dsimp only;refine zc ?_;refine za (wpAny_newTuple ?_ (by show 2<=sizeLine;decide))
 have h:g.objs.size=s.heap.objs.size:=by rw[f.1,d.1,a.1]
 have j:iV g z TI TO T true:=f.extBut _ _ D.i2z.symm (d.extBut _ _ D.i1z.symm l);refine zc ⟨_,rfl,?_⟩;show Q (.ref g.objs.size) _;rw[h];have i:=W (g.push {cls:=.type "tuple",data:=.seq #[x,y]}) (zq _ j) ((n.extBut f.extBut D.i12).at λo e=>zq _ e) (m.at λo e=>zq _ e)
  (by rw[<-h];exact zG _ rfl) (by rw[Heap.size_push,h]) λc o Z Y X e=>zq _ (f.extBut _ _ X (d.extBut _ _ Y (a.extBut _ _ Z e)))
 exact i
theorem YJ{z TI TO T j i r q:Addr}{o:Obj}{b:Bool}{y u:Nat}{xs ys:Array Value}{Q:PySem.Fin->Shared->Prop}(L:A.handled=none)(D:ZipApart z TI TO j i r q)
  (hz:iV s.heap z TI TO T b) (W:s.heap.get? T=some o) (H:IsPair s.heap TI (.ref j) (.ref i))
  (h1:s.heap.IsListIter j r y) (h2:s.heap.IsListIter i q u) (l:s.heap.IsList r xs) (G:s.heap.IsList q ys) (n:xs[y]?=none\/ys[u]?=none)
  (O:∀h' e,(∀c o,c≠z->c≠j->c≠i->s.heap.get? c=some o->h'.get? c=some o)->(∃o,h'.get? e=some o/\o.cls=.type "StopIteration")->E (.ref e) {s with heap:=h'}):
  wpAny (model prog w) A (Builtin.«zip.__next__» ⟨[.ref z],[]⟩) Q E s:=by
 show wpAny _ _ (field (.ref z) 2 >>= _) _ _ _;refine za (wpAny_field hz rfl (x:=.bool false) rfl ?_);show wpAny _ _ (field (.ref z) 3 >>= _) _ _ _;refine za (wpAny_field hz rfl (x:=.ref TI) rfl ?_);refine za (wpAny_seqItems H rfl ?_);show wpAny _ _ (Builtin.SmallTypes.ownedTupleIsFree (.ref z) >>= _) _ _ _;refine za (K7 hz W λR I a=>?_);simp only[Bool.false_eq_true,if_false];refine za ?_;simp only[<-Array.forIn_toList,List.forIn_cons,List.forIn_nil];refine za (za (zZ ?_));show wpAny _ _ (Builtin.SmallTypes.nextOf (.ref j) >>= _) _ _ _
 cases hx:xs[y]? with
 |none =>
  refine za (wpAny_nextOf_list_end L (h1.extBut a.extBut D.i1z) (l.extBut a.extBut D.l1z) hx λf e d B=>?_);exact O f e (λc o F C P x=>d _ _ C (a.extBut _ _ F x)) B
 |some x =>
  have U:ys[u]?=none:=by rcases n with h | h;rw[hx] at h;cases h;exact h
  refine za (wpAny_nextOf_list_item (h1.extBut a.extBut D.i1z) (l.extBut a.extBut D.l1z) hx λf J d=>zc (zc ?_));dsimp only;refine za (za (zZ ?_));show wpAny _ _ (Builtin.SmallTypes.nextOf (.ref i) >>= _) _ _ _;refine za (wpAny_nextOf_list_end L ((h2.extBut a.extBut D.i2z).extBut d.extBut D.i12.symm) ((G.extBut a.extBut D.l2z).extBut d.extBut D.l2i1) U λm e g B=>?_);exact O m e (λc o F C P x=>g _ _ P (d.extBut _ _ C (a.extBut _ _ F x))) B
theorem YK{z TI TO T d a h g:Addr}{o:Obj}{b:Bool}{j i:Nat}{xs ys:Array Value}{x y:Value}{Q:Option Value->Shared->Prop}(D:ZipApart z TI TO d a h g)
  (hz:iV s.heap z TI TO T b) (u:s.heap.get? T=some o) (n:IsPair s.heap TI (.ref d) (.ref a))
  (h1:s.heap.IsListIter d h j) (h2:s.heap.IsListIter a g i) (m:s.heap.IsList h xs) (l:s.heap.IsList g ys) (r:xs[j]?=some x) (q:ys[i]?=some y)
  (B:∀h',iV h' z TI TO T true->h'.IsListIter d h (j+1)->h'.IsListIter a g (i+1)->IsPair h' s.heap.objs.size x y->h'.objs.size=s.heap.objs.size+1 ->
   (∀c o,c≠z->c≠d->c≠a->s.heap.get? c=some o->h'.get? c=some o)->Q (some (.ref s.heap.objs.size)) {s with heap:=h'}):
  wpAny (model prog w) A (pyNext (.ref z)) Q E s:=by
 have f:s.TypeIs (.ref z) "zip":=⟨_,hz,rfl⟩;unfold pyNext
 exact za (wpAny_attempt (wpAny_callSpecial?_slot (name:=Str.ofString "__next__") f F.slot_zip_next
  (wpAny_call_entry F.slot_zip_next f F.entry_zip_next
   (YH D hz u n h1 h2 m l r q λh' a1 J I H G C=>zc (B h' a1 J I H G C)) (F.args_zip_next_1 _))))
theorem YL{z TI TO T g f i h:Addr}{o:Obj}{b:Bool}{r q:Nat}{xs ys:Array Value}{Q:Option Value->Shared->Prop}(y:A.handled=none)(D:ZipApart z TI TO g f i h)
  (hz:iV s.heap z TI TO T b) (G:s.heap.get? T=some o) (n:IsPair s.heap TI (.ref g) (.ref f))
  (h1:s.heap.IsListIter g i r) (h2:s.heap.IsListIter f h q) (m:s.heap.IsList i xs) (l:s.heap.IsList h ys) (d:xs[r]?=none\/ys[q]?=none)
  (H:∀h',(∀c o,c≠z->c≠g->c≠f->s.heap.get? c=some o->h'.get? c=some o)->Q none {s with heap:=h'}):wpAny (model prog w) A (pyNext (.ref z)) Q E s:=by
 have a:s.TypeIs (.ref z) "zip":=⟨_,hz,rfl⟩;unfold pyNext
 refine za (wpAny_attempt (wpAny_callSpecial?_slot (name:=Str.ofString "__next__") a F.slot_zip_next
  (wpAny_call_entry F.slot_zip_next a F.entry_zip_next (YJ y D hz G n h1 h2 m l d λh' e x B=>?_) (F.args_zip_next_1 _))))
 obtain⟨u,j,C⟩:=B;refine za (wpAny_isInstance (T:="StopIteration") (b:=true) ⟨u,j,C⟩ isSubtype_stop ?_);exact zc (H _ x)
structure ZS(base:Nat)(h:Heap)(z TI TO i1 i2 l1 l2 S:Addr)(xs ys acc:Array Value)(c i:Nat):Prop where
 zi:(IsZip h z TI TO .none/\∃a b,IsPair h TO a b)\/∃T b o,iV h z TI TO T b/\h.get? T=some o/\T∉[z,TO,i1,i2,S]
 ti:IsPair h TI (.ref i1) (.ref i2)
 it1:h.IsListIter i1 l1 i
 it2:h.IsListIter i2 l2 i
 a1:h.IsList l1 xs
 a2:h.IsList l2 ys
 ls:h.get? S=some {cls:=.type "list",dict:=none,data:=.seq acc c,slots:=#[]}
 sz:acc.size=i
 tl:TO<h.objs.size
 nd:acc.toList.Nodup
 ts:∀(j:Nat) (v:Value),acc[j]?=some v->∃(T:Addr) (x y:Value),v=Value.ref T/\xs[j]?=some x/\ys[j]?=some y/\IsPair h T x y/\T∉[z,TO,i1,i2,S]/\base<=T
variable {R:PySem.Result->Shared->Prop}
theorem YM{z TI TO l h J I S:Addr}{xs ys:Array Value}{n base:Nat}(hh:A.handled=none)(D:ZipApart z TI TO l h J I)(hS:S∉[z,TI,TO,l,h,J,I])(res:Value)(hn:n<=sizeLine)(hn1:n<=xs.size)(hn2:n<=ys.size)(hne:n=xs.size\/n=ys.size):
  ∀(k i:Nat) (s:Shared) (acc:Array Value) (c:Nat),n - i=k->i<=n->ZS base s.heap z TI TO l h J I S xs ys acc c i->base<=s.heap.objs.size ->
  (∀(h':Heap) (g:Array Value) (c':Nat),(∀b o,b∉[z,TO,l,h,S]->s.heap.get? b=some o->h'.get? b=some o)->h'.get? S=some {cls:=.type "list",dict:=none,data:=.seq g c',slots:=#[]}->g.size=n->g.toList.Nodup ->
   (∀(j:Nat) (v:Value),g[j]?=some v->∃(T:Addr) (x y:Value),v=Value.ref T/\xs[j]?=some x/\ys[j]?=some y/\IsPair h' T x y/\T∉[z,TO,l,h,S]/\base<=T)->R (.ok (.ret res)) {s with heap:=h'}) ->
  codeAny (model prog w) A (.builtin "list.extend.loop" ⟨[.ref S,.ref z,res],[]⟩) R s:=by
 simp only[zo,List.not_mem_nil,or_false,not_or] at hS;obtain⟨S1,S2,S3,S4,S5,S6,S7⟩:=hS
 have m:∀b:Addr,b∉[z,TO,l,h,S]↔b≠z/\b≠TO/\b≠l/\b≠h/\b≠S:=λb=>by simp only[zo,List.not_mem_nil,or_false,not_or]
 intro k
 induction k with
 |zero =>
  intro i s acc c hk hi d hb hR
  have hin:i=n:=by omega
  subst hin;refine codeAny_builtin F.entry_extend_loop ?_;rw[Around.under_plainId F.plain_extend_loop _];show wpAny _ A.in1 (pyNext (.ref z) >>= _) _ _ s
  have C:xs[i]?=none\/ys[i]?=none:=by
   rcases hne with e | e
   ·left;rw[Array.getElem?_eq_none_iff];omega
   ·right;rw[Array.getElem?_eq_none_iff];omega
  have fin:∀h',(∀b o,b≠z->b≠TO->b≠l->b≠h->s.heap.get? b=some o->h'.get? b=some o)->R (.ok (.ret res)) {s with heap:=h'}:=λh' kp =>
   hR h' acc c (λb o hb e=>by obtain⟨W,b2,U,Q,b5⟩:=(m b).mp hb;exact kp b o W b2 U Q e) (kp S _ S1 S3 S4 S5 d.ls) d.sz d.nd λj v u=>by
    obtain⟨T,x,y,e1,e2,e3,e4,e5,e6⟩:=d.ts j v u;obtain⟨W,b2,U,Q,b5⟩:=(m T).mp e5;exact⟨T,x,y,e1,e2,e3,kp T _ W b2 U Q e4,e5,e6⟩
  rcases d.zi with⟨q,a,b,H⟩ | ⟨T,b,o,q,hT,_⟩
  ·exact za (wpAny_pyNext_zip_end hh D q d.ti H d.it1 d.it2 d.a1 d.a2 C λh' kp=>zc (fin h' kp))
  ·exact za (YL hh D q hT d.ti d.it1 d.it2 d.a1 d.a2 C λh' kp=>zc (fin h' λb o W b2 U Q e=>kp b o W U Q e))
 |succ k ih =>
  intro i s acc c hk hi d hb hR
  have hlt:i<n:=by omega
  have hx:xs[i]?=some (xs[i]'(by omega)):=Array.getElem?_eq_getElem _;have hy:ys[i]?=some (ys[i]'(by omega)):=Array.getElem?_eq_getElem _
  generalize xs[i]'(by omega)=x at hx
  generalize ys[i]'(by omega)=y at hy
  refine codeAny_builtin F.entry_extend_loop ?_;rw[Around.under_plainId F.plain_extend_loop _];show wpAny _ A.in1 (pyNext (.ref z) >>= _) _ _ s
  have ltz:z<s.heap.objs.size:=by rcases d.zi with⟨q,_⟩ | ⟨T,b,o,q,_⟩<;>exact zg q
  have Y:S<s.heap.objs.size:=zg d.ls
  have lt1:l<s.heap.objs.size:=by obtain⟨_,e,_⟩:=d.it1;exact zg e
  have lt2:h<s.heap.objs.size:=by obtain⟨_,e,_⟩:=d.it2;exact zg e
  have nxt:wpAny (model prog w) A.in1 (pyNext (.ref z)) (λr s1=>∃h',r=some (.ref s.heap.objs.size)/\s1 = {s with heap:=h'}/\(∃T b o,iV h' z TI TO T b/\h'.get? T=some o/\(T=s.heap.objs.size\/T∉[z,TO,l,h,S]))/\h'.IsListIter l J (i+1)/\h'.IsListIter h I (i+1)/\IsPair h' s.heap.objs.size x y/\h'.objs.size=s.heap.objs.size+1 /\
    ∀c o,c≠z->c≠TO->c≠l->c≠h->s.heap.get? c=some o->h'.get? c=some o) (λ_ _=>False) s:=by
   rcases d.zi with⟨q,a,b,H⟩ | ⟨T,b,o,q,hT,hTn⟩
   ·exact wpAny_pyNext_zip_item D q d.ti H d.it1 d.it2 d.a1 d.a2 hx hy λh' q1 q2 q3 q4 q5 q6 q7=>⟨h',rfl,rfl,⟨_,false,_,q1,q5,.inl rfl⟩,q3,q4,q5,q6,q7⟩
   ·obtain⟨P,n2,O,L,n5⟩:=(m T).mp hTn
    exact YK D q hT d.ti d.it1 d.it2 d.a1 d.a2 hx hy λh' q1 q3 q4 q5 q6 q7=>⟨h',rfl,rfl,⟨T,true,o,q1,q7 T o P O L hT,.inr hTn⟩,q3,q4,q5,q6,λc o c1 c2 c3 c4 e=>q7 c o c1 c3 c4 e⟩
  have ltO:TO≠s.heap.objs.size:=zy d.tl;have B:s.heap.objs.size∉[z,TO,l,h,S]:=(m _).mpr ⟨Nat.ne_of_gt ltz,ltO.symm,Nat.ne_of_gt lt1,Nat.ne_of_gt lt2,Nat.ne_of_gt Y⟩;refine za (zT nxt ?_ λ_ _ x=>x.elim);rintro r s1 ⟨h',rfl,rfl,⟨T,b,o,hz',hT',hTn'⟩,j1,j2,hp,hsz,kp⟩;have hS':=kp S _ S1 S3 S4 S5 d.ls
  have f:∀c o,c≠S->h'.get? c=some o->(h'.update S (Obj.mapSeq (·.push (Value.ref s.heap.objs.size)))).get? c=some o:=λc o hc e=>(jf _ _ (Ne.symm hc)).trans e
  have G:T∉[z,TO,l,h,S]:=by
   rcases hTn' with e | e
   ·rw[e];exact B
   ·exact e
  have hnd:(acc.push (Value.ref s.heap.objs.size)).toList.Nodup:=by
   rw[Array.toList_push,jo];refine⟨d.nd,by simp,λv u w hw=>?_⟩;rw[zk.mp hw];rintro rfl;obtain⟨j,hj⟩:=List.mem_iff_getElem?.mp u;obtain⟨X,x2,y2,f1,_,_,f4,_⟩:=d.ts j _ (by simpa using hj);cases f1;exact zQ _ (zg f4)
  show wpAny _ A.in1 (updateSeq S (·.push (.ref s.heap.objs.size)) >>= _) _ _ _;refine za ?_
  refine ji hS' rfl (zc ⟨plainId_quiet F.plain_extend_loop _,ih (i+1) _ (acc.push (.ref s.heap.objs.size)) _ (by omega) hlt ⟨.inr ⟨T,b,o,f z _ (Ne.symm S1) hz',f T _ ((m T).mp G).2.2.2.2 hT',G⟩,
   f TI _ (Ne.symm S2) (kp TI _ D.TIz D.TITO D.TIi1 D.TIi2 d.ti),j1.at λo e=>f l o (Ne.symm S4) e,j2.at λo e=>f h o (Ne.symm S5) e,
   d.a1.at λo e=>f J o (Ne.symm S6) (kp J o D.l1z D.l1TO D.l1i1 D.l1i2 e),d.a2.at λo e=>f I o (Ne.symm S7) (kp I o D.l2z D.l2TO D.l2i1 D.l2i2 e),Heap.get?_update_self _ hS' rfl,by rw[Array.size_push,d.sz],by rw[Heap.size_update,hsz];exact jn d.tl,hnd,λj v u=>?_⟩ ?_ λh2 g c' kp2 e1 e2 en e3=>?_⟩)
   (by rw[d.sz];omega) (by show(acc.push _).size<=sizeLine+1;rw[Array.size_push,d.sz];omega)
  ·rw[Array.getElem?_push] at u;split at u
   ·rename_i e;rw[d.sz] at e;cases u;subst e;exact⟨_,x,y,rfl,hx,hy,f _ _ (Nat.ne_of_gt Y) hp,B,hb⟩
   ·obtain⟨X,x2,y2,f1,f2,f3,f4,f5,f6⟩:=d.ts j v u;obtain⟨P,n2,O,L,n5⟩:=(m X).mp f5;exact⟨X,x2,y2,f1,f2,f3,f X _ n5 (kp X _ P n2 O L f4),f5,f6⟩
  ·rw[Heap.size_update,hsz];omega
  ·refine hR h2 g c' (λb o Z e=>kp2 b o Z ?_) e1 e2 en e3;obtain⟨P,n2,O,L,n5⟩:=(m b).mp Z;exact f b o n5 (kp b o P n2 O L e)
theorem YQ:typeLookup (.type "zip") "__len__" = pure none:=by rw[typeLookup_type,builtinLookup_eq_fast];kernel_rfl
theorem YS:typeLookup (.type "zip") "__length_hint__" = pure none:=by rw[typeLookup_type,builtinLookup_eq_fast];kernel_rfl
theorem YT{z TI TO m l I H S:Addr}{xs ys:Array Value}{n base:Nat}(hh:A.handled=none)(D:ZipApart z TI TO m l I H)(B:S∉[z,TI,TO,m,l,I,H])(res:Value)(Z:n<=sizeLine)(P:n<=xs.size)(O:n<=ys.size)(L:n=xs.size\/n=ys.size)(C:Nat)(hb:base<=s.heap.objs.size)
  (hz:IsZip s.heap z TI TO .none) (st:ZS base s.heap z TI TO m l I H S xs ys #[] C 0)
  (hR:∀(h':Heap) (c:Array Value) (r:Nat),(∀b o,b∉[z,TO,m,l,S]->s.heap.get? b=some o->h'.get? b=some o)->h'.get? S=some {cls:=.type "list",dict:=none,data:=.seq c r,slots:=#[]}->c.size=n->c.toList.Nodup ->
   (∀(j:Nat) (v:Value),c[j]?=some v->∃(T:Addr) (x y:Value),v=Value.ref T/\xs[j]?=some x/\ys[j]?=some y/\IsPair h' T x y/\T∉[z,TO,m,l,S]/\base<=T)->R (.ok (.ret res)) {s with heap:=h'}):
  wpAny (model prog w) A.in1 (Builtin.List.listExtendWith (.ref S) (.ref z) res)
   (λU G=>match U with | .done f=>R (.ok f) G | .again r=>r.quiet=true/\codeAny (model prog w) A r R G) (λe G=>R (.error e) G) s:=by
 have hSn':=B;simp only[zo,List.not_mem_nil,or_false,not_or] at hSn';obtain⟨X,S2,S3,S4,S5,S6,S7⟩:=hSn';have h:s.TypeIs (.ref z) "zip":=⟨_,hz,rfl⟩;unfold Builtin.List.listExtendWith;refine za (wpAny_typeOf h ?_)
 have h1:Builtin.List.listSameRef (.ref S) (.ref z)=false:=by simp[Builtin.List.listSameRef,X]
 have h2:(Value.type "zip" == Value.type "list")=false:=by decide
 have h3:(Value.type "zip" == Value.type "tuple")=false:=by decide
 simp only[h1,h2,h3,Bool.or_false,Bool.false_eq_true,if_false];refine za (wpAny_pyIter_zip hz ?_);refine za (zZ ?_);unfold Builtin.List.listLengthHint;refine za (wpAny_specialOf h YQ ?_);show wpAny _ A.in1 (specialOf (Value.ref z) (Str.ofString "__length_hint__") >>= _) _ _ _;refine za (wpAny_specialOf h YS ?_);refine zc ?_
 show wpAny _ A.in1 (rule "list.extend.makes-room" >>= λ_=>Builtin.List.listTouch (.ref S) >>= λ_ =>
  again (.builtin "list.extend.loop" ⟨[.ref S,.ref z,res],[]⟩)) _ _ _
 refine za (wpAny_rule ?_);refine za ?_;show wpAny _ A.in1 (updateSeq S (·.push .none) >>= λ_=>updateSeq S (·.pop)) _ _ _;have W:=st.ls;refine za (ji W rfl ?_);have g:=Heap.get?_update_self (Obj.mapSeq (·.push Value.none)) W rfl;refine ji (hz:=by seq_fits) g rfl ?_;have i:=Heap.get?_update_self (Obj.mapSeq (·.pop)) g rfl;have d:∀b o,b≠S->s.heap.get? b=some o->((s.heap.update S (Obj.mapSeq (·.push Value.none))).update S (Obj.mapSeq (·.pop))).get? b=some o :=
  λb o hb e=>(jf _ _ (Ne.symm hb)).trans ((jf _ _ (Ne.symm hb)).trans e)
 obtain⟨a,b',Q⟩:∃a b,IsPair s.heap TO a b:=by
  rcases st.zi with⟨_,x⟩ | ⟨T,b,o,J,_⟩
  ·exact x
  ·have q:=Eq.trans (Eq.symm hz) J;simp[rawInt] at q
 refine zc ⟨plainId_quiet F.plain_extend_loop _,YM (base:=base) hh D B res Z P O L n 0 _ _ _ rfl (Nat.zero_le _) ⟨.inl ⟨d z _ (Ne.symm X) hz,a,b',d TO _ (Ne.symm S3) Q⟩,d TI _ (Ne.symm S2) st.ti,st.it1.at λo e=>d m o (Ne.symm S4) e,st.it2.at λo e=>d l o (Ne.symm S5) e,
  st.a1.at λo e=>d I o (Ne.symm S6) e,st.a2.at λo e=>d H o (Ne.symm S7) e,i,rfl,by rw[Heap.size_update,Heap.size_update];exact st.tl,List.nodup_nil,λj v Y=>by simp at Y⟩ (by rw[Heap.size_update,Heap.size_update];exact hb) λh' c r kp e1 e2 en e3=>?_⟩
 exact hR h' c r (λb o u e=>kp b o u (d b o (λz=>u (by simp[z])) e)) e1 e2 en e3
theorem YW{z TI TO l i J I:Addr}{xs ys:Array Value}{n:Nat}{Q:Value->Shared->Prop}(hh:A.handled=none)(D:ZipApart z TI TO l i J I)(hn:n<=sizeLine)(hn1:n<=xs.size)(hn2:n<=ys.size)(hne:n=xs.size\/n=ys.size)
  (hz:IsZip s.heap z TI TO .none) (G:IsPair s.heap TI (.ref l) (.ref i)) {a b:Value} (C:IsPair s.heap TO a b) (h1:s.heap.IsListIter l J 0) (h2:s.heap.IsListIter i I 0) (B:s.heap.IsList J xs) (u:s.heap.IsList I ys)
  (hQ:∀(h':Heap) (c:Array Value) (P:Nat),(∀b o,b∉[z,TO,l,i]->s.heap.get? b=some o->h'.get? b=some o)->h'.get? s.heap.objs.size=some {cls:=.type "list",dict:=none,data:=.seq c P,slots:=#[]}->c.size=n->c.toList.Nodup ->
   (∀(j:Nat) (v:Value),c[j]?=some v->∃(T:Addr) (x y:Value),v=Value.ref T/\xs[j]?=some x/\ys[j]?=some y/\IsPair h' T x y/\T≠s.heap.objs.size/\s.heap.objs.size<=T)->Q (.ref s.heap.objs.size) {s with heap:=h'}):
  wpAny (model prog w) A (call (.type "list") [.ref z]) Q E s:=by
 have U:z<s.heap.objs.size:=zg hz;have W:TI<s.heap.objs.size:=zg G;have q:TO<s.heap.objs.size:=zg C
 have X:l<s.heap.objs.size:=by obtain⟨_,e,_⟩:=h1;exact zg e
 have lt2:i<s.heap.objs.size:=by obtain⟨_,e,_⟩:=h2;exact zg e
 have Z:J<s.heap.objs.size:=by obtain⟨_,e,_⟩:=B;exact zg e
 have Y:I<s.heap.objs.size:=by obtain⟨_,e,_⟩:=u;exact zg e
 refine callType_codes (Q₁:=λobj g=>obj=.ref s.heap.objs.size/\g = {s with heap:=s.heap.push {cls:=.type "list",data:=.seq #[]}}) F.called_list (F.typeCall_list_1 _) F.entry_list_init
  (code_list_new _ ⟨rfl,rfl⟩) λobj g H=>?_
 obtain⟨rfl,rfl⟩:=H;have L:(s.heap.push {cls:=.type "list",data:=.seq #[]}).get? s.heap.objs.size=some {cls:=.type "list",data:=.seq #[]}:=zG _ rfl;refine⟨⟨_,L,rfl⟩,F.args_list_init_2 _ _,?_⟩;show wpAny _ _ (do let old <-Builtin.List.listItems (.ref s.heap.objs.size);Builtin.List.listUpdate (.ref s.heap.objs.size) (λ_=>#[]);letGo old.toList.reverse;Builtin.List.listExtendWith (.ref s.heap.objs.size) (.ref z) .none) _ _ _;refine za ?_;unfold Builtin.List.listItems;refine za (wpAny_seqItems L rfl (zc ?_));show wpAny _ _ (updateSeq s.heap.objs.size (λ_=>#[]) >>= λ_=>letGo (#[]:Array Value).toList.reverse >>= λ_=>Builtin.List.listExtendWith (.ref s.heap.objs.size) (.ref z) .none) _ _ _
 refine za (ji L rfl ?_);have h:=Heap.get?_update_self (Obj.mapSeq (λ_=>(#[]:Array Value))) L rfl;refine za (wpAny_letGo ?_);have d:∀b o,s.heap.get? b=some o->((s.heap.push {cls:=.type "list",data:=.seq #[]}).update s.heap.objs.size (Obj.mapSeq (λ_=>(#[]:Array Value)))).get? b=some o :=
  λb o e=>(jf _ _ (Nat.ne_of_gt (zg e))).trans (zq _ e)
 have r:((s.heap.push {cls:=.type "list",data:=.seq #[]}).update s.heap.objs.size (Obj.mapSeq (λ_=>(#[]:Array Value)))).objs.size=s.heap.objs.size+1:=by rw[Heap.size_update,Heap.size_push]
 refine YT (base:=s.heap.objs.size) (by exact hh) D (by simp only[zo,List.not_mem_nil,or_false,not_or];exact⟨Nat.ne_of_gt U,Nat.ne_of_gt W,Nat.ne_of_gt q,Nat.ne_of_gt X,Nat.ne_of_gt lt2,Nat.ne_of_gt Z,Nat.ne_of_gt Y⟩) .none hn hn1 hn2 hne _ (by show _<=((s.heap.push _).update _ _).objs.size;rw[r];exact Nat.le_succ _) (d _ _ hz)
  ⟨.inl ⟨d _ _ hz,a,b,d _ _ C⟩,d _ _ G,h1.at λo e=>d _ o e,h2.at λo e=>d _ o e,B.at λo e=>d _ o e,u.at λo e=>d _ o e,h,rfl,by show _<((s.heap.push _).update _ _).objs.size;rw[r];exact jn q,List.nodup_nil,λj v O=>by simp at O⟩ λh' c P kp e1 e2 en e3=>?_
 refine⟨rfl,hQ h' c P (λb o m e=>kp b o (λf=>?_) (d b o e)) e1 e2 en λj v O=>?_⟩
 ·simp only[zo,List.not_mem_nil,or_false,not_or] at m f
  have:=zg e
  rcases f with f | f | f | f | f
  ·exact m.1 f
  ·exact m.2.1 f
  ·exact m.2.2.1 f
  ·exact m.2.2.2 f
  ·exact absurd this (by rw[f];exact zQ _)
 ·obtain⟨T,x,y,f1,f2,f3,f4,f5,f6⟩:=e3 j v O;exact⟨T,x,y,f1,f2,f3,f4,λe=>f5 (by simp[e]),f6⟩
end
theorem Un.more{fs ex:List Addr}{H H1:Hp}{h h':Heap}{a:Addr}{o:HO}(u:Un fs ex H H1 h h')(hp:h.objs.size<=a)(hn:H1 a=none):Un fs ex H (upd H1 a o) h h' where
 keep:=u.keep
 slot:=u.slot
 free:=λb ob q n hx=>by rw[aO (zy (zJ (zg q) hp))];exact u.free b ob q n hx
 there:=u.there
 tups:=λb xs q=>by have z:=u.tups b xs q;rw[aO (cN z hn)];exact z
 frzs:=λb ob v q=>by have z:=u.frzs b ob v q;rw[aO (cN z hn)];exact z
 tbls:=λb ps q=>by obtain⟨m,z⟩:=u.tbls b ps q;exact⟨m,by rw[aO (cN z hn)];exact z⟩
theorem HOk.more{P:Program}{w:World}{H:Hp}{h:Heap}{a:Addr}{o:HO}(x:HOk P w H h)(f:H a=none)(d:cF P w (upd H a o) h a o):HOk P w (upd H a o) h:=λb u e=>by
 by_cases g:b=a
 ·subst g;rw[bN] at e;cases e;exact d
 ·rw[aO g] at e
  exact(x b u e).stay (λc v _ q=>q) (λc q=>by rw[aO (cN q f)];exact q) λc i q=>by rw[aO (cN q f)];exact q
def vP:Hp->List (V×V)->List V->Hp->Prop
 |H,[],ts,H2=>ts=[]/\H2=H
 |H,p::r,ts,H2=>∃T a,ts=.ref T::a/\H T=none/\vP (upd H T (.tup [p.1,p.2])) r a H2
theorem K8{P:Program}{w:World}{fs:List Addr}{l:Hp}{h h':Heap}:∀(ps:List (V×V)) (vs:List Value) (c:Hp),Un fs [] l c h h'->HOk P w c h'->vs.Nodup ->
  Paired (λ(p:V×V) (v:Value)=>∃T x y,v=Value.ref T/\RelV p.1 x/\RelV p.2 y/\IsPair h' T x y/\h.objs.size<=T/\c T=none) ps vs ->
  ∃ts f,vP c ps ts f/\aU ts vs/\Un fs [] l f h h'/\HOk P w f h'/\∀b,Value.ref b∉vs->f b=c b
 | [],vs,c,u,x,_,hp=>by
  cases hp;exact⟨[],c,⟨rfl,rfl⟩,.nil,u,x,λ_ _=>rfl⟩
 |p::ps,vs,c,u,x,hnd,hp=>by
  cases hp with
  |cons h1 h2 =>
   obtain⟨T,u1,u2,rfl,B,r,E,m,i⟩:=h1;rw[List.nodup_cons] at hnd;have u':Un fs [] l (upd c T (.tup [p.1,p.2])) h h':=u.more m i;have x':HOk P w (upd c T (.tup [p.1,p.2])) h':=x.more i ⟨by show 2<=sizeLine;decide,[u1,u2],.cons B (.cons r .nil),⟨_,E,rfl,_,rfl⟩⟩;have go:∀(ps:List (V×V)) (g:List Value),Value.ref T∉g->Paired (λ(p:V×V) (v:Value)=>∃T x y,v=Value.ref T/\RelV p.1 x/\RelV p.2 y/\IsPair h' T x y/\h.objs.size<=T/\c T=none) ps g ->
     Paired (λ(q:V×V) (v:Value)=>∃d x y,v=Value.ref d/\RelV q.1 x/\RelV q.2 y/\IsPair h' d x y/\h.objs.size<=d/\upd c T (.tup [p.1,p.2]) d=none) ps g:=λps g hw C=>by
    induction C with
    |nil=>exact .nil
    |cons a b ih =>
     rw[zo,not_or] at hw;obtain⟨d,x,y,n,U,R,Q,O,L⟩:=a;refine .cons ⟨d,x,y,n,U,R,Q,O,?_⟩ (ih hw.2);rw[aO (λz=>hw.1 (by rw[n,z]))];exact L
   obtain⟨ts,f,J,I,H,G,F⟩:=K8 ps _ _ u' x' hnd.2 (go _ _ hnd.1 h2);refine⟨.ref T::ts,f,⟨T,ts,rfl,i,J⟩,.cons rfl I,H,G,λb j=>?_⟩;rw[zo,not_or] at j;rw[F b j.2,aO (λz=>j.1 (by rw[z]))]
theorem K9{α β:Type}{R:α->β->Prop}:∀(ps:List α) (vs:List β),ps.length=vs.length->(∀(j:Nat) p v,ps[j]?=some p->vs[j]?=some v->R p v)->Paired R ps vs
 | [],[],_,_=>.nil
 | [],_::_,h,_=>by cases h
 | _::_,[],h,_=>by cases h
 |p::ps,v::vs,h,f=>.cons (f 0 p v rfl rfl) (K9 ps vs (Nat.succ.inj h) λj p v a b=>f (j+1) p v a b)
section
variable {X:Cx}
def tLZ(K:Frag)(i:TA):TE:=λσ H Q=>i σ H λh d=>∃a b g f,h=[.ref a,.ref b]/\SqL K d a g/\SqL K d b f/\∀ts c,vP d (g.zip f) ts c->∀l,c l=none->Q (.ref l) (upd c l (.lst ts))
theorem YX{a b:Expr}{ta:TA}{p L E pos':Pos}(hc:X.calm=true)(hgl:Gl X "list")(hml:X.mg "list" = none)(hgz:Gl X "zip")(hmz:X.mg "zip" = none)(ha:PA X [a,b] ta)
  (hs:starEach [a,b] X.env=(false,eval a X.env)::starEach [b] X.env:=by exact di rfl) (hpl:(backTo pos' (starEach [b] X.env)).any (·.1)=false:=by exact eU rfl)
  (he:starEach [.Call (.Name "zip" L) [a,b] [] pos'] X.env=(false,eval (.Call (.Name "zip" L) [a,b] [] pos') X.env)::starEach [] X.env:=by exact di rfl):
  PE X (.Call (.Name "list" p) [.Call (.Name "zip" L) [a,b] [] pos'] [] E) (tLZ X.K ta):=by
 intro pins s σ H Q I h;refine Call_ (jA I hgl hml nU (PyProof.Rows.callWith_type1 ?_ he rfl));rw[he];show wpAny _ _ (spliced ((false,eval (.Call (.Name "zip" L) [a,b] [] pos') X.env)::backTo E (starEach [] X.env))) _ _ s;refine Calls.spliced_cons ?_;refine Call_ (jA I hgz hmz boot_zip (PyProof.Rows.callWith_type1 (thn (ha pos' pins s σ H _ I h) λus s1 ⟨vs,H1,I1,r1,q1⟩=>?_) hs hpl));obtain⟨l1,l2,U,R,e,hq1,hq2,q⟩:=q1;subst e;obtain⟨u1,u2,rfl,ru1,ru2⟩:=vals2 r1;cases ru1;cases ru2;obtain⟨g,C,l,hz1⟩:=I1.list hq1;obtain⟨f,B,i,hz2⟩:=I1.list hq2
 have a1:l1<s1.heap.objs.size:=by obtain⟨_,e,_⟩:=l.isList;exact zg e
 have a2:l2<s1.heap.objs.size:=by obtain⟨_,e,_⟩:=i.isList;exact zg e
 have len1:=C.length;have len2:=B.length
 refine call_zip_2 l.isList i.isList λY hz hTI hTO J G hsz W=>?_
 refine Calls.spliced_nil ?_;refine YW (s:={s1 with heap:=Y}) (n:=min g.length f.length) (I.ok.hd hc) (zipApart_new a1 a2) (by omega) (by rw[zr];omega) (by rw[zr];omega) (by rw[zr,zr];omega) hz hTI hTO J G
  (l.isList.at λo e=>W l1 o e) (i.isList.at λo e=>W l2 o e) λh2 d c kp e1 e2 en e3=>?_
 have k:∀b o,s1.heap.get? b=some o->h2.get? b=some o:=λb o e=>kp b o (λO=>by
  have:=zg e
  simp only[zo,List.not_mem_nil,or_false] at O
  rcases O with rfl | rfl | rfl | rfl
  ·exact Nat.not_lt.mpr (Nat.le_add_right _ _) this
  ·exact Nat.not_lt.mpr (Nat.le_add_right _ _) this
  ·exact zQ _ this
  ·exact Nat.not_lt.mpr (Nat.le_add_right _ _) this) (W b o e)
 have hlen:d.toList.length=(U.zip R).length:=by rw[Array.length_toList,e2,List.length_zip];omega
 have hsz':({s1 with heap:=Y}:Shared).heap.objs.size=s1.heap.objs.size+5:=hsz
 have hp:Paired (λ(p:V×V) (v:Value)=>∃T x y,v=Value.ref T/\RelV p.1 x/\RelV p.2 y/\IsPair h2 T x y/\s1.heap.objs.size<=T/\H1 T=none) (U.zip R) d.toList:=K9 _ _ hlen.symm λj p v m hvj=>by
  obtain⟨T,x,y,Z,f2,f3,f4,f5,f6⟩:=e3 j v (by simpa using hvj);rw[List.getElem?_zip_eq_some] at m;obtain⟨w1,z,w2⟩:=C.get m.1;obtain⟨w3,u,w4⟩:=B.get m.2
  have f2':g[j]?=some x:=by simpa using f2
  have f3':f[j]?=some y:=by simpa using f3
  rw[f2'] at z;rw[f3'] at u;cases z;cases u
  have F:s1.heap.objs.size<=T:=by omega
  exact⟨T,x,y,Z,w2,w4,f4,F,I1.hok.fresh F⟩
 obtain⟨ts,H2,g1,g2,g3,g4,g5⟩:=K8 (P:=X.prog) (w:=X.w) (fs:=X.fs) (h:=s1.heap) (U.zip R) d.toList H1 (Un.kept k) (I1.hok.kept k) en hp
 have r:H2 ({s1 with heap:=Y}:Shared).heap.objs.size=none:=by
  rw[g5 _ λO=>?_]
  ·exact I1.hok.fresh (by omega)
  ·obtain⟨j,hj⟩:=List.mem_iff_getElem?.mp O;obtain⟨T,x,y,Z,_,_,_,f5,_⟩:=e3 j _ (by simpa using hj);cases Z;exact f5 rfl
 have hts:ts.length<=sizeLine:=by
  have q1:=g2.length;have q2:d.toList.length=d.size:=Array.length_toList;omega
 have hok:=g4.more (o:=.lst ts) r ⟨hts,d.toList,c,g2,by rw[Array.toArray_toList];exact e1⟩;exact⟨.ref _,upd H2 _ (.lst ts),I1.un (t':=s1.toks) (g3.more (o:=.lst ts) (by omega) r) hok,rfl,q ts H2 g1 _ r⟩
end
theorem La{K:Frag}{mg:Str->Option Value}{O:ak}{as:List Addr}:∀(ds es:List D) (xs ys:List V) (H F:Hp) (ts:List V) (a:Hp),RlO K mg O H F as->Rps K F as xs ds->Rps K F as ys es->vP H (xs.zip ys) ts a->∃f,Gr H F as a f as/\RlO K mg O a f as/\Rps K f as ts (kJ ds es)
 | [],es,xs,ys,H,F,ts,a,r,h1,h2,g=>by
  rw[h1.un0] at g;obtain⟨rfl,rfl⟩:=g;exact⟨F,Gr.refl,r,Rps.nil⟩
 |d::ds,[],xs,ys,H,F,ts,a,r,h1,h2,g=>by
  rw[h2.un0,List.zip_nil_right] at g;obtain⟨rfl,rfl⟩:=g;exact⟨F,Gr.refl,r,Rps.nil⟩
 |d::ds,e::es,xs,ys,H,F,ts,a,r,h1,h2,g=>by
  obtain⟨x,n,rfl,h3,h4⟩:=h1.un;obtain⟨y,m,rfl,L,J⟩:=h2.un;rw[List.zip_cons_cons] at g;obtain⟨T,j,rfl,c,g⟩:=g;have h:=r.frF c
  have ff:Same F (upd F T (.tup [x,y])):=λb u q=>by rw[aO (cN q h)];exact q
  have I:Rps K F as [x,y] [d,e]:=Rps.cons h3 (Rps.cons L Rps.nil);have i:Gr H F as (upd H T (.tup [x,y])) (upd F T (.tup [x,y])) as:=(Gr.lay c).frz c h;have E:RlO K mg O (upd H T (.tup [x,y])) (upd F T (.tup [x,y])) as:=(r.lay c).frz bN h (λz=>r.all z c) rfl;have B:Rp K (upd F T (.tup [x,y])) as (.ref T) (.tup [d,e]):=Rp.mkT (.inl bN) (Rps.mono ff (λ_ _ z=>z) _ I);obtain⟨f,l,C,G⟩:=La ds es n m _ _ j a E (h4.gr i) (J.gr i) g;exact⟨f,i.trans l,C,Rps.cons (B.gr l) G⟩
def gLZ:List D->Option D
 | [.lst ds,.lst es]=>some (.lst (kJ ds es))
 | _=>none
section
variable {X:Cx}{md:List Md}{P:Pt}
theorem YZ{a b:Expr}{ms:List Md}{i:M (List D)}{p h j pos':Pos}(hc:X.calm=true)(C:X.mg "list" = none)(B:X.mg "zip" = none)(ha:AE X md P ms [a,b] i)(G:Gl X "list":=by rfl)(E:Gl X "zip":=by rfl)
  (hs:starEach [a,b] X.env=(false,eval a X.env)::starEach [b] X.env:=by exact di rfl) (y:(backTo pos' (starEach [b] X.env)).any (·.1)=false:=by exact eU rfl)
  (he:starEach [.Call (.Name "zip" h) [a,b] [] pos'] X.env=(false,eval (.Call (.Name "zip" h) [a,b] [] pos') X.env)::starEach [] X.env:=by exact di rfl):
  OE X md P (.Call (.Name "list" p) [.Call (.Name "zip" h) [a,b] [] pos'] [] j) (aY gLZ i):=(YX hc G C E B ha hs y he).imp λσ H Q q=>by
 have q':tCB (rC X.K X.mg gLZ) (tMA X.K X.mg md P ms i) σ H Q:=vJ q;obtain⟨ρ,O,F,as,ds,O',r,s,e1,k⟩:=q';refine⟨ρ,O,F,as,ds,O',r,s,e1,λY R F1 I g1 Z hv=>?_⟩;obtain⟨O2,F2,as2,es,d,g,m,e,k2⟩:=k Y R F1 I g1 Z hv;unfold gLZ at e;split at e
 ·rename_i W U;cases e;obtain⟨v,u,rfl,x,n⟩:=m.two;obtain⟨a1,L,rfl,q1,q2⟩:=x.list g.fh;obtain⟨a2,J,rfl,q3,q4⟩:=n.list g.fh;refine⟨a1,a2,L,J,rfl,q1.sq,q3.sq,λts H2 gr l c=>?_⟩;obtain⟨F3,T,f,p3⟩:=La W U L J R F2 ts H2 g q2 q4 gr;exact k2 _ _ F3 (T.trans (Gr.lay c)) (f.lay c) (.inr ⟨l,ts,_,rfl,rfl,bN,f.frF c,λz=>f.all z c,T.dm l c,p3⟩)
 ·cases e
end
section
end
end L2
namespace L2
open PySem PySem.Spec PyProof.Rows PySem.W
section
variable {X:Cx}{md:List Md}{P:Pt}
end
end L2
namespace L2
open PySem PySem.Spec PyProof.Rows
section
variable {X:Cx}{md:List Md}{P:Pt}{R:RR}
variable {elts:List Expr}{x1:Nat}{tpos:Pos}{a elt:Expr}{ifs:List Expr}{scope:Scope}{p pos pe:Pos}{m:M D}{g:MG}{t:M Bool}{e:M D}
end
def Itv(K:Frag)(a:Addr)(n:Nat):It :=
 ⟨λi H=>i<n/\∃b x,SqL K H a b/\b[n - 1 - i]?=some x,λi H x c=>c=H/\∀b,SqL K H a b->b[n - 1 - i]?=some x,λi _=>n<=i⟩
theorem Y0{P:Program}{w:World}{K:Frag}{tg:Expr}(a it:Addr)(n:Nat):Turn P w K tg (Itv K a n) [it] it (λi h=>i<=n/\h.IsRevIter it a ((n:Int) - 1 - (i:Int))) where
 mem:=by simp
 obj:=λi h st b hb=>by
  have e:b=it:=by simpa using hb
  subst e;obtain⟨_,o,e,c,d⟩:=st;exact⟨o,e,λv z=>by rw[d] at z;cases z⟩
 keep:=λi h h' st k=>⟨st.1,st.2.at λo e=>k it (by simp) o e⟩
 item:=by
  intro X hP hw hK hc i pins s σ H E I hf st hg;subst hP hw hK;obtain⟨hi,xs,x,hq,hx⟩:=hg;obtain⟨its,rv,p,hz⟩:=I.list hq;obtain⟨u,hu,ru⟩:=rv.get hx;obtain⟨f0,f1,f2,f3,f4,f5⟩:=hf it (by simp);have hst:=st.2;rw[show(n:Int) - 1 - (i:Int)=((n - 1 - i:Nat):Int) by omega] at hst
  refine wpAny_pyNext_rev_item hst p.isList (x:=u) (by simpa using hu) λh' st' sb=>?_
  rw[show((n - 1 - i:Nat):Int) - 1=(n:Int) - 1 - ((i+1:Nat):Int) by omega] at st';have I1:Inv X pins σ H {s with heap:=h'}:=I.turned (t':=s.toks) (λb o hb e=>(sb.2 b hb).trans e) f0 f1 f3 f4 f5;obtain⟨o,e,c,d⟩:=id st';exact⟨u,rfl,m8 (s:={s with heap:=h'}) e c d (by decide) ⟨x,H,I1,ru,⟨rfl,λys hy=>by rw[I.list_inj hy hq];exact hx⟩,⟨hi,st'⟩,λb hb=>(hf b hb).1⟩⟩
 done:=by
  intro X hP hw hK hc i pins s σ H E I hf st hg;subst hP hw hK;have hg':n<=i:=hg;obtain⟨f0,f1,f2,f3,f4,f5⟩:=hf it (by simp);have hst:=st.2;have h1:=st.1;rw[show(n:Int) - 1 - (i:Int) = -1 by omega] at hst
  exact wpAny_pyNext_rev_end (I.ok.hd hc) hst λh' eb=>⟨rfl,I.turned (t':=s.toks) (λb o hb e=>eb b o hb e) f0 f1 f3 f4 f5⟩
 self:=λ_ _ _ _ _ st h=>wpAny_pyIter_revIter st.2 h
section
variable {X:Cx}{md:List Md}{P:Pt}{R:RR}{tg:Expr}
theorem boot_reversed:bootBuiltins "reversed" = some (.type "reversed"):=by decide +kernel
def Y4(K:Frag)(f:TA):TI:=λσ H R=>f σ H λd c=>∃a b,d=[.ref a]/\SqL K c a b/\R (Itv K a b.length) c
theorem Y5{a:Expr}{i:TA}{p d:Pos}(B:Gl X "reversed")(y:X.mg "reversed" = none)(E:PA X [a] i)(r:starEach [a] X.env=[(false,eval a X.env)]:=by exact sH rfl):
  PI X tg (.Call (.Name "reversed" p) [a] [] d) (Y4 X.K i):=by
 intro pins s σ H R I h;refine Call_ (jA I B y boot_reversed (PyProof.Rows.callWith_type1 (thn (E d pins s σ H _ I h) λus s1 ⟨vs,H1,I1,r1,q1⟩=>?_) r rfl));obtain⟨l,c,e,x,q⟩:=q1;subst e;obtain⟨u,rfl,m⟩:=vals1 r1;cases m;obtain⟨g,j,n,F⟩:=I1.list x
 have z:g.toArray.size=c.length:=by rw[zr];exact j.length.symm
 refine call_reversed_list n.isList ?_;rw[z]
 have f:(s1.heap.push (revObj l ((c.length:Int) - 1))).IsRevIter s1.heap.objs.size l ((c.length:Int) - 1 - ((0:Nat):Int)):=by
  rw[show(c.length:Int) - 1 - ((0:Nat):Int)=(c.length:Int) - 1 by omega];exact⟨_,zG _ rfl,rfl,rfl⟩
 refine wpAny_pyIter_revIter (s:={s1 with heap:=s1.heap.push (revObj l ((c.length:Int) - 1))}) f ?_;refine⟨s1.heap.objs.size,[s1.heap.objs.size],_,_,H1,rfl,I1.kept (t':=s1.toks) (λb o e=>zq _ e),Y0 l s1.heap.objs.size c.length,⟨Nat.zero_le _,f⟩,λb C=>?_,q⟩
 have hb':s1.heap.objs.size<=b:=by rw[zk.mp C];exact zb _
 exact I1.fpOk hb' (I1.hok.fresh hb')
def vQ(m:M D):M (List D):=λρ O=>(m ρ O).bind λd a=>match d with
 | .lst ds=>.ok ds.reverse a
 | _=>.no
theorem Y6{a:Expr}{p n:Pos}{m:M D}(T:X.mg "reversed" = none)(h:WE X md P a m)(U:Gl X "reversed":=by rfl)(L:starEach [a] X.env=[(false,eval a X.env)]:=by exact sH rfl)(u:starEach [a] X.env=(false,eval a X.env)::starEach [] X.env:=by exact di rfl):
  VI X md P tg (.Call (.Name "reversed" p) [a] [] n) (vQ m):=(Y5 U T (nA h oZ u) L).imp λσ H Q q=>by
 obtain⟨ρ,O,F,Z,ds,O',r,s,e,k⟩:=q;obtain⟨d,O1,Y,e⟩:=Res.bind_ok e
 cases d with
 |lst es =>
  cases e;refine⟨ρ,_,F,Z,_,_,r,s,Y,λv G I f W z J=>?_⟩;obtain⟨a,b,rfl,h1,h2⟩:=Kq (mg:=X.mg) J;have C:b.length=es.length:=h1.length;refine⟨a,b,rfl,(h2 G I f GrS.refl ⟨_,z⟩).sq,k _ G I f W z ⟨λi d E l c g r e=>?_,λE l c g r=>by show b.length<=_;rw[List.length_reverse,C];exact zb _⟩⟩
  have hi:i<es.length:=by
   have:=(zl.mp e).1
   rwa [List.length_reverse] at this
  rw[List.getElem?_reverse hi,<-C] at e;obtain⟨x,h3,h4⟩:=h1.get' e;have B:=h2 E l c g r;refine⟨⟨by omega,b,x,B.sq,h3⟩,λy H3 j=>?_⟩;obtain⟨rfl,j⟩:=j
  have:=j b B.sq
  rw[h3] at this;cases this;exact⟨l,Gr.refl,λ_ r=>r,h4.grS g⟩
 | _=>cases e
theorem Lb(i:Int)(h:0<=i):Str.ofString (toString i)=S ((Nat.toDigits 10 i.toNat).map Char.toNat):=by
 obtain⟨m,rfl⟩:∃m:Nat,i=(m:Int):=⟨i.toNat,(Int.toNat_of_nonneg h).symm⟩;rw[Int.toNat_natCast,<-PySem.W.KIN.signs_num m,WD]
def pW:List D->Option D
 | [.int i]=>if 0<=i/\i<1000000000 then some (.str ((Nat.toDigits 10 i.toNat).map Char.toNat)) else none
 | _=>none
theorem Y7:iR X (.type "str") pW:=by
 intro pins s σ H g b Q I c h;obtain⟨O,F,l,j,d,r,a,e,k⟩:=h;unfold pW at e;split at e
 ·rename_i i;split at e
  ·rename_i hi;obtain⟨v,rfl,f⟩:=a.one;cases e;cases(f.rp rfl).unI;refine Us pins s σ H _ b Q I c ⟨i,rfl,shown (N:=2 ^ 1920) (by omega) (by omega) (Int.le_refl _),?_⟩;have z:=Lb i hi.1;refine cj (v:=.str (Str.ofString (toString i))) r k rfl ?_;rw[z];exact Rp.str
  ·cases e
 ·cases e
end
structure bM(mg:Str->Option Value):Prop extends K6 mg where
 reversed_:mg "reversed" = none
end L2
namespace L2
open PySem PySem.Spec PyProof.Rows PySem.W
def mdI:Option Int->List Int->Option Int
 |b,[]=>b
 |none,n::r=>mdI (some n) r
 |some m,n::r=>mdI (some (if n<m then n else m)) r
def MdV(d v:Value):Option Int->Prop
 |none=>v=d
 |some m=>∃t,v=.int m t
def MdB(bs:Array Value):Option Int->Prop
 |none=>bs = #[]
 |some m=>∃t,bs = #[.int m t,.int m t]
section
variable {prog:Program}{w:World}{A:Around}{E:Value->Shared->Prop}
theorem Y8{a:String}{b:Builtin}{as:List Value}{g:List (Str×Value)}{s:Shared}{Q:Value->Shared->Prop}(m:builtinKind a=none)(l:plainId a=true)(n:entryFor table a=some b)(j:argsOk a ⟨as,g⟩)
  (i:wpAny (model prog w) A.in1 (b ⟨as,g⟩) (λh d=>match h with
   | .done f=>(match(Except.ok f:Result) with | .ok (.ret v)=>Q v d | .ok _=>False | .error e=>E e d)
   | .again c=>c.quiet=true/\codeAny (model prog w) A c (λr d=>match r with | .ok (.ret v)=>Q v d | .ok _=>False | .error e=>E e d) d) E s):
  wpAny (model prog w) A (call (.builtin a) as g) Q E s:=by
 refine wpAny_call (codeAny_call_builtin l n ?_);simp only[checkBuiltinCall,m]
 cases g0:Manifest.signature? a with
 |none=>exact zc i
 |some sg =>
  simp only[argsOk,g0] at j;have z:Bind.checkArgs a sg ⟨as,g⟩=pure ():=j;show wpAny _ A.in1 (Bind.checkArgs a sg ⟨as,g⟩) _ _ s;rw[z];exact zc i
theorem Y9{n m:Int}{t u:Tok}{s:Shared}{Q:Value->Shared->Prop}(q:Q (.bool (decide (n<m))) s):wpAny (model prog w) A (richCompare .Lt (.int n t) (.int m u)) Q E s :=
 CmpOf.ints_lt (A:=A) (P:=λi v=>∃t,v=.int (if i=0 then n else m) t) (λi=>if i=0 then n else m) (λ_ _ z=>z) 0 1 _ _ s Q E ⟨t,rfl⟩ ⟨u,rfl⟩ q
theorem Za{R:Result->Shared->Prop}{l i0 S:Addr}{its:List Value}{d:Value}(hh:A.in1.handled=none)(n1:l≠i0)(n2:S≠i0)(n3:S≠l):
  ∀(us:List Value) (ns:List Int) (pre:List Value) (b:Option Int) (bs:Array Value) (s:Shared) (c:Nat),its=pre++us->aU (ns.map V.int) us->s.heap.IsListIter i0 l pre.length->s.heap.IsList l its.toArray->MdB bs b ->
   s.heap.get? S=some {cls:=.type "list",dict:=none,data:=.seq bs c,slots:=#[]} ->
   (∀v h' tk,MdV d v (mdI b ns)->(∀x o,x≠i0->x≠S->s.heap.get? x=some o->h'.get? x=some o)->R (.ok (.ret v)) {s with heap:=h',toks:=tk}) ->
   codeAny (model prog w) A (.builtin "min.loop" ⟨[.ref i0,.none,.ref S],[("default",d)]⟩) R s:=by
 have W:=Walks.list (prog:=prog) (w:=w) hh i0 l n1 its.toArray
 have nm:(toString "min" ++ toString ".loop":String) = "min.loop":=by decide
 have nS:S∉[i0]:=λz=>n2 (zk.mp z)
 have U:∀x:Addr,x≠i0->x∉[i0]:=λx z y=>z (zk.mp y)
 intro us
 induction us with
 |nil =>
  intro ns pre b bs s c e P it X H I Q
  have ens:ns=[]:=by
   cases ns with
   |nil=>rfl
   |cons=>cases P
  subst ens
  have Y:pre.length=its.toArray.size:=by rw[e];simp
  rw[Y] at it;refine codeAny_builtin PySem.F.entry_min_loop ?_;rw[Around.under_plainId PySem.F.plain_min_loop _];show wpAny _ A.in1 (seqItems? (.ref S) >>= _) _ _ s;refine za (wpAny_seqItems I rfl ?_);show wpAny _ A.in1 (tryCatch (pyNext (.ref i0)) _ >>= _) _ _ s;refine za (wpAny_tryCatch (W.done s _ _ ⟨it,X⟩ λh1 tk kp=>?_));have h:=kp S _ nS I
  cases b with
  |none =>
   have g:bs = #[]:=H;subst g;show wpAny _ A.in1 (rule _ >>= _) _ _ _;refine za (wpAny_rule ?_);exact zc (Q d h1 tk rfl λx o C O q=>kp x o (U x C) q)
  |some m =>
   obtain⟨t,g⟩:=H;subst g;show wpAny _ A.in1 (updateSeq S (λ_=>#[]) >>= _) _ _ _;refine za ?_;refine ji h rfl (za (wpAny_letGo (zc ?_)))
   exact Q (.int m t) _ tk ⟨t,rfl⟩ λx o C O q=>(jf _ _ (Ne.symm O)).trans (kp x o (U x C) q)
 |cons u us ih =>
  intro ns pre b bs s c e P it X H I Q
  cases ns with
  |nil=>cases P
  |cons n ns =>
   have rv':aU (V.int n::ns.map V.int) (u::us):=P
   obtain⟨ru,rus⟩:RelV (.int n) u/\aU (ns.map V.int) us:=by
    cases rv' with
    |cons a b=>exact⟨a,b⟩
   obtain⟨i,rfl⟩:=ru
   have Y:pre.length<its.toArray.size:=by rw[e];simp
   have e':its=(pre++[Value.int n i])++us:=by rw[e];simp
   have eg:its.toArray[pre.length]?=some (Value.int n i):=by rw[e];simp
   refine codeAny_builtin PySem.F.entry_min_loop ?_;rw[Around.under_plainId PySem.F.plain_min_loop _];show wpAny _ A.in1 (seqItems? (.ref S) >>= _) _ _ s;refine za (wpAny_seqItems I rfl ?_);show wpAny _ A.in1 (tryCatch (pyNext (.ref i0)) _ >>= _) _ _ s;refine za (wpAny_tryCatch (W.item pre.length s _ _ Y ⟨it,X⟩ λv h1 tk hv st kp=>?_));rw[eg] at hv;cases hv;have h:=kp S _ nS I
   have B:∀(h2:Heap) (y:Addr) (o:Obj),y≠S->h2.get? y=some o->∀f,(h2.update S f).get? y=some o:=λh2 y o z q f=>(jf _ _ (Ne.symm z)).trans q
   have go:∀(T:Option Int) (r:Array Value) (h2:Heap) (J:Nat) (Z:Nat),MdB r T->mdI T ns=mdI b (n::ns)->h2.get? S=some {cls:=.type "list",dict:=none,data:=.seq r Z,slots:=#[]} ->
     (∀x o,x≠S->h1.get? x=some o->h2.get? x=some o)->codeAny (model prog w) A (.builtin "min.loop" ⟨[.ref i0,.none,.ref S],[("default",d)]⟩) R {s with heap:=h2,toks:=J}:=λT r h2 J Z q1 q2 q3 q4=>by
    have L:=W.frame _ h1 h2 st λx G o q=>q4 x o (λz=>by
     rcases zo.mp G with rfl | G
     ·exact n2 z.symm
     ·rcases zo.mp G with rfl | G
      ·exact n3 z.symm
      ·cases G) q
    refine ih ns (pre++[Value.int n i]) T r _ Z e' rus (by rw[zn];exact L.1) L.2 q1 q3 λv h3 tk3 C O=>?_
    exact Q v h3 tk3 (q2 ▸ C) λx o y1 y2 q=>O x o y1 y2 (q4 x o y2 (kp x o (U x y1) q))
   cases b with
   |none =>
    have g:bs = #[]:=H;subst g;show wpAny _ A.in1 (updateSeq S (λ_=>#[Value.int n i,Value.int n i]) >>= _) _ _ _;refine za ?_;refine ji h rfl ?_;rw[nm];exact zc ⟨plainId_quiet PySem.F.plain_min_loop _,go (some n) _ _ _ _ ⟨i,rfl⟩ rfl (Heap.get?_update_self _ h rfl) λx o z q=>B _ x o z q _⟩
   |some m =>
    obtain⟨t,g⟩:=H;subst g;show wpAny _ A.in1 (tryCatch (holding [Value.int n i,Value.int n i] (richCompare .Lt (.int n i) (.int m t) >>= _)) _ >>= _) _ _ _;refine za (wpAny_tryCatch (zZ (za (Y9 ?_))));refine za (zZ (wpAny_truthy_bool ?_));refine za (wpAny_letGo (zc ?_))
    by_cases j:n<m
    ·rw[zj j];simp only[if_true];refine za ?_;refine ji h rfl (za (wpAny_letGo ?_));rw[nm];exact zc ⟨plainId_quiet PySem.F.plain_min_loop _,go (some n) _ _ _ _ ⟨i,rfl⟩ (by show _=mdI (some (if n<m then n else m)) ns;rw[if_pos j]) (Heap.get?_update_self _ h rfl) λx o z q=>B _ x o z q _⟩
    ·rw[zf j];simp only[Bool.false_eq_true,if_false];refine za (wpAny_letGo ?_);rw[nm];exact zc ⟨plainId_quiet PySem.F.plain_min_loop _,go (some m) _ _ _ _ ⟨t,rfl⟩ (by show _=mdI (some (if n<m then n else m)) ns;rw[if_neg j]) h λx o z q=>q⟩
end
section
variable {X:Cx}{md:List Md}{P:Pt}{R:RR}
def tsF(n:Nat)(y:D)(O:ak):Res D:=match tU y,O[n]? with
 |some k,some (.dt kvs)=>match gH kvs k with
  |some d=>.ok d O
  |none=>.no
 | _,_=>.no
def Ld(mo my:M D):M D:=λρ O=>(mo ρ O).bind λx b=>match x with
 | .ob n=>(my ρ b).bind λy a=>tsF n y a
 | _=>.no
theorem Zb{T:Nat}(hk:bD X.K=true)(Z:bA T X.A){o i:Expr}{h:Pos}{mo my:M D}(ho:VE X md P o mo)(hi:VE X md P i my)(Y:rR i:=by intro _ _;rfl):VE X md P (.Subscript o i h) (Ld mo my):=
 (Ak (ph Z) ho hi Y).imp λσ H Q q=>by
  obtain⟨ρ,O,F,as,d,O',r,s,e,k⟩:=q;obtain⟨x,O1,e1,e⟩:=Res.bind_ok e
  cases x with
  |ob n =>
   obtain⟨y,O2,e2,e⟩:=Res.bind_ok e;unfold tsF at e;split at e
   ·rename_i L kvs e3 e4;split at e
    ·rename_i d' c;cases e;refine⟨ρ,_,F,as,_,_,r,s,e1,λx H1 F1 l B J U=>⟨ρ,_,F1,l,_,_,J,s.step B,e2,λu H2 F2 j z g W=>?_⟩⟩;obtain⟨a,rfl,ha⟩:=Rp.unO U;obtain⟨xs,G,E⟩:=g.dt (z.at_ n a ha) e4;obtain⟨b,rfl,hb⟩:=Rp.tkey hk W e3
     rcases E.val (k:=L) with⟨f,m⟩ | ⟨d2,I,f,m,C⟩
     ·rw[f] at c;cases c
     ·rw[f] at c;cases c;refine⟨a,I,rfl,?_,k _ H2 F2 j (B.trans z) g C⟩;rw[<-m];exact gZ.t G (g.fh _ _ hb)
    ·cases e
   ·cases e
  | _=>cases e
def vR:List D->Option D
 | [.lst ds]=>(eY ds).map λns=>match mdI none ns with
  |some m=>.int m
  |none=>.non
 | _=>none
theorem Zc(a d:Value):argsOk "min" ⟨[a],[("default",d)]⟩:=by unfold argsOk;kernel_rfl
theorem Zd(n:X.calm=true){pins:List (Addr×Obj)}{s:Shared}{σ:St}{H:Hp}{a:Addr}{ns:List Int}{Q:VK}(I:Inv X pins σ H s)(j:SqL X.K H a (ns.map V.int))(q:Q (match mdI none ns with | some m=>.int m | none=>.non) H):
  wpAny (model X.prog X.w) X.A (call (.builtin "min") [.ref a] [("default",.none)]) (EP X pins σ Q) X.xe s:=by
 obtain⟨its,g,h,_⟩:=I.list j;have f:=h.isList
 have la:a<s.heap.objs.size:=by obtain⟨_,z,_⟩:=f;exact zg z
 refine Y8 PySem.F.kind_min PySem.F.plain_min PySem.F.entry_min (Zc _ _) ?_;show wpAny _ X.A.in1 (Builtin.Builtins.bindParams "min" ["key","default"] 0 ⟨[],[("default",.none)]⟩ >>= _) _ _ s;refine za (wpAny_of_eq (show _=pure [none,some Value.none] from rfl) ?_);refine za (zc ?_);refine za (wpAny_pyIter_list f ?_);refine za (wpAny_newObj_type ?_);rw[show(toString "min" ++ toString ".loop":String) = "min.loop" by decide];have sz:(s.heap.push {cls:=.type "list_iterator",data:=.fields #[.ref a,.int 0 0]}).objs.size=s.heap.objs.size+1:=Heap.size_push ..
 refine zc ⟨plainId_quiet PySem.F.plain_min_loop _,Za (its:=its) (l:=a) (i0:=s.heap.objs.size) (d:=.none) (I.ok.hd n) (zy la) (Nat.ne_of_gt (by rw[sz];exact je _)) (Nat.ne_of_gt (by rw[sz];exact jn la)) its ns [] none #[] _ 0 rfl g
  ⟨_,zq _ (zG _ rfl),rfl,rfl⟩ ((f.push _).push _) rfl (zG _ rfl) λv h1 tk c kp=>?_⟩
 have i:∀b o,s.heap.get? b=some o->h1.get? b=some o:=λb o z=>kp b o (zy (zg z)) (zy (by rw[sz];exact jn (zg z))) (zq _ (zq _ z))
 refine⟨_,H,I.kept (t':=tk) i,?_,q⟩
 cases e:mdI none ns with
 |none =>
  rw[e] at c;exact c
 |some m =>
  rw[e] at c;exact c
theorem Ze{p b i h:Pos}{j:Nat}{e:Expr}{m:M D}(C:X.calm=true)(y:X.mg "min" = none)(E:SE X md P e m)(z:Gl X "min":=by rfl)(x:starEach [e] X.env=(false,eval e X.env)::starEach [] X.env:=by exact di rfl)(f:(backTo b (starEach [e] X.env)).any (·.1)=false:=by exact eU rfl)
  (B:backTo b (starEach [e] X.env)=(false,eval e X.env)::backTo b (starEach [] X.env):=by rfl):
  OE X md P (.Call (.Name "min" p) [e] [⟨some "default",.Constant .none j i,h⟩] b) (aY vR (aj m aq)):=by
 intro pins s σ H Q I q;refine wpAny_Call_Name_kw (jA I z y boot_min ?_ (by decide) (by decide));have q':=vJ (ms:=[.s]) q;refine callWith_kw (thn ((aC E aG x) b pins s σ H _ I q') λus s1 ⟨vs,H1,I1,r1,q1⟩=>?_) B f;refine kws_cons (Constant_none (kws_nil ?_));obtain⟨O,F,T,L,d,r,c,e,k⟩:=q1;unfold vR at e;split at e
 ·rename_i G;obtain⟨v,rfl,n⟩:=c.one;obtain⟨a,J,rfl,h1,h2⟩:=n.list r.fh;obtain⟨u,rfl,g⟩:=vals1 r1;cases g
  cases hi:eY G with
  |none=>rw[hi] at e;cases e
  |some ns =>
   rw[hi] at e;cases e;have l:=h2.ints hi;refine Zd C I1 (ns:=ns) (by rw[<-l];exact h1.sq) ?_
   cases em:mdI none ns with
   |none =>
    dsimp only at k;rw[em] at k;exact cj r k rfl Rp.non
   |some m =>
    dsimp only at k;rw[em] at k;exact cj r k rfl Rp.int
 ·cases e
end
def Itd(lo:Int)(n:Nat):It:=⟨λi _=>i<n,λi H x a=>a=H/\x=.int (lo - i),λi _=>n<=i⟩
def iW(lo:Int)(n:Nat):List D:=(List.range n).map λi:Nat=>.int (lo - i)
theorem Zf{P:Program}{w:World}{K:PySem.W.Frag}{tg:Expr}(it:Addr)(lo:Int)(n:Nat):Turn P w K tg (Itd lo n) [it] it (λi h=>IsRangeIter h it (lo+(i:Nat) * (-1)) ((n:Int) - (i:Nat)) (-1)) where
 mem:=by simp
 obj:=λi h st b hb=>by
  have e:b=it:=by simpa using hb
  subst e
  exact⟨_,st,λv z=>by
   have z':Data.fields _=Data.cell v:=z
   cases z'⟩
 keep:=λi h h' st k=>k it (by simp) _ st
 item:=by
  intro X hP hw hK hc i pins s σ H E I hf st hg;subst hP hw hK;obtain⟨f0,f1,f2,f3,f4,f5⟩:=hf it (by simp);have W:=Walks.range (prog:=X.prog) (w:=X.w) (I.ok.hd hc) it lo (-1) n
  refine W.item i s _ _ hg st λv h' tk hv st' kk=>?_
  obtain⟨t,rfl⟩:=hv;have I1:Inv X pins σ H {s with heap:=h',toks:=tk}:=I.turned (λb o hb e=>kk b o (by simpa using hb) e) f0 f1 f3 f4 f5;refine⟨_,rfl,m8 (s:={s with heap:=h',toks:=tk}) (n:="range_iterator") st' rfl rfl (by decide) ⟨.int (lo - i),H,I1,⟨t,?_⟩,⟨rfl,rfl⟩,st',λb hb=>(hf b hb).1⟩⟩;rw[show lo+(i:Int) * (-1)=lo - i by omega]
 done:=by
  intro X hP hw hK hc i pins s σ H E I hf st hg;subst hP hw hK;obtain⟨f0,f1,f2,f3,f4,f5⟩:=hf it (by simp)
  exact wpAny_pyNext_range_end (I.ok.hd hc) st (by have:n<=i:=hg;omega) λh' eb=>⟨rfl,I.turned (t':=s.toks) (λb o hb e=>eb b o hb e) f0 f1 f3 f4 f5⟩
 self:=λ_ _ _ _ _ st h=>wpAny_pyIter_rangeiter st h
section
variable {X:Cx}{tg:Expr}{md:List Md}{P:Pt}
theorem Le(a b:Int):Builtin.Range.rangeSize a b (-1)=if a>b then a - b else 0:=by
 unfold Builtin.Range.rangeSize;rw[if_neg (by decide)]
 split
 ·rw[show(-(-1:Int))=1 by decide,Int.ediv_one];omega
 ·rfl
theorem small_down{a b:Int}(f:-(2 ^ 62)<=a)(d:a<2 ^ 62)(hb:-(2 ^ 62)<=b)(c:b<2 ^ 62):Builtin.Range.small a b (-1)=true:=by
 unfold Builtin.Range.small;rw[Le];simp only[Builtin.Range.rangeFitsLong,zu,Bool.or_eq_true,decide_eq_true_eq,beq_iff_eq,show ¬((-1:Int)>0) by decide,if_false]
 split<;>omega
def Zg(b:TA):TI:=λσ H R=>b σ H λa c=>∃i j:Int,a=[.int i,.int j,.int (-1)]/\(-(2 ^ 62)<=i/\i<2 ^ 62/\-(2 ^ 62)<=j/\j<2 ^ 62)/\R (Itd i (i - j).toNat) c
theorem Zh{a b c:Expr}{g:TA}{p d:Pos}(l:Gl X "range")(j:X.mg "range" = none)(n:PA X [a,b,c] g)(i:starEach [a,b,c] X.env=[(false,eval a X.env),(false,eval b X.env),(false,eval c X.env)]:=by rfl)(f:starEach [b,c] X.env=[(false,eval b X.env),(false,eval c X.env)]:=by rfl):
  PI X tg (.Call (.Name "range" p) [a,b,c] [] d) (Zg g):=by
 intro pins s σ H R I h;refine Call_ (jA I l j boot_range (PyProof.Rows.callWith_type1 (thn (n d pins s σ H _ I h) λus s1 ⟨vs,H1,I1,r1,q1⟩=>?_) (by rw[i,f]) (by rw[f];rfl)));obtain⟨lo,hi,e,⟨h1,h2,h3,h4⟩,q⟩:=q1;subst e
 cases r1 with
 |cons r rr =>
  cases rr with
  |cons r' rr =>
   cases rr with
   |cons r'' rr =>
    cases rr;obtain⟨t,rfl⟩:=r;obtain⟨u,rfl⟩:=r';obtain⟨v,rfl⟩:=r'';refine call_range_3 (by decide) ?_ (Or.inl (PyProof.noPylong_small (by omega)));refine wpAny_pyIter_range (IsRange.new ..) (small_down h1 h2 h3 h4) ?_
    have J:Inv X pins σ H1 {s1 with heap:=s1.heap.push {cls:=.type "range",data:=.fields #[.int lo t,.int hi u,.int (-1) v]},toks:=s1.toks}:=I1.kept λb o e=>zq _ e
    refine⟨(s1.heap.push {cls:=.type "range",data:=.fields #[.int lo t,.int hi u,.int (-1) v]}).objs.size,[(s1.heap.push {cls:=.type "range",data:=.fields #[.int lo t,.int hi u,.int (-1) v]}).objs.size],_,_,H1,rfl,
     J.kept (t':=s1.toks) λb o e=>zq _ e,Zf _ lo (lo - hi).toNat,?_,λb m=>?_,q⟩
    ·have y:lo+((0:Nat):Int) * (-1)=lo:=by simp
     have x:(((lo - hi).toNat:Nat):Int) - ((0:Nat):Int)=Builtin.Range.rangeSize lo hi (-1):=by rw[Le];split<;>omega
     show IsRangeIter _ _ (lo+((0:Nat):Int) * (-1)) ((((lo - hi).toNat:Nat):Int) - ((0:Nat):Int)) (-1);rw[y,x];exact zG _ rfl
    ·have e:b=(s1.heap.push {cls:=.type "range",data:=.fields #[.int lo t,.int hi u,.int (-1) v]}).objs.size:=by simpa using m
     subst e;exact J.fpOk (zb _) (J.hok.fresh (zb _))
theorem Zi{K:Frag}{mg:Str->Option Value}{lo:Int}{n:Nat}{H F:Hp}{as:List Addr}:nP K mg P (Itd lo n) (iW lo n) H F as:=Bh (λi d b e=>by
 unfold iW at e;rw[zF] at e
 by_cases hi:i<n
 ·rw[List.getElem?_range hi] at e;cases e;refine⟨hi,λx c y=>?_⟩;obtain⟨a,rfl⟩:=y;exact⟨a,λ_ _ _=>Rp.int⟩
 ·rw[List.getElem?_eq_none (by simpa using hi)] at e
  cases e) λb=>by simp[iW,Itd]
def vU(m:M (List D)):M (List D):=λρ O=>(m ρ O).bind λa b=>match a with
 | [.int i,.int j,.int c]=>if c = -1/\i<=1000000000/\-1000000000<=i/\j<=1000000000/\-1000000000<=j then .ok (iW i (i - j).toNat) b else .no
 | _=>.no
theorem cY.three{K:Frag}{H F:Hp}{as:List Addr}{c b a:Md}{vs:List V}{d e f:D}(h:cY K H F as [c,b,a] vs [d,e,f]):∃v u z,vs=[v,u,z]/\rA K c (λ_=>True) H F as v d/\rA K b (λ_=>True) H F as u e/\rA K a (λ_=>True) H F as z f:=by
 cases vs with
 |nil=>exact h.elim
 |cons v vs =>
  obtain⟨h1,h2⟩:=h;obtain⟨u,z,rfl,h3,h4⟩:=cY.two h2;exact⟨v,u,z,rfl,h1,h3,h4⟩
theorem Zj{a b c:Expr}{p d:Pos}{m:M (List D)}(E:X.mg "range" = none)(I:AE X md P [.s,.s,.s] [a,b,c] m)(G:Gl X "range":=by rfl)(C:starEach [a,b,c] X.env=[(false,eval a X.env),(false,eval b X.env),(false,eval c X.env)]:=by rfl)(g:starEach [b,c] X.env=[(false,eval b X.env),(false,eval c X.env)]:=by rfl):
  VI X md P tg (.Call (.Name "range" p) [a,b,c] [] d) (vU m):=(Zh G E I C g).imp λσ H Q q=>by
 obtain⟨ρ,O,F,W,ds,O',r,s,e,k⟩:=q;obtain⟨es,O1,U,e⟩:=Res.bind_ok e;split at e
 ·rename_i i j c;split at e
  ·rename_i l;cases e;obtain⟨rfl,l⟩:=l;refine⟨ρ,_,F,W,_,_,r,s,U,λvs Y Z h J n y=>?_⟩;obtain⟨v,u,z,rfl,f,B,x⟩:=y.three;have T:=(Sv.rp f rfl).unI;have R:=(Sv.rp B rfl).unI;have L:=(Sv.rp x rfl).unI;subst T R L;exact⟨i,j,rfl,⟨by omega,by omega,by omega,by omega⟩,k _ Y Z h J n Zi⟩
  ·cases e
 ·cases e
end
section
variable {X:Cx}{pins:List (Addr×Obj)}{σ:List (Option V)}{H:Hp}{s:Shared}{a:Addr}{xs:List (List Key×V)}{o:Obj}
theorem Inv.reword{u:HO}(I:Inv X pins σ H s)(ha:H a≠none)(hn:∀ys,H a≠some (.tup ys))(ho:∀y,H a≠some (.own y))(hb:∀ps,H a≠some (.tbl ps))(hf:∀o u,X.H₀ a≠some (.frz o u))(new:cF X.prog X.w (upd H a u) s.heap a u):Inv X pins σ (upd H a u) s where
 ok:=I.ok
 os:=I.os
 bare:=I.bare
 base:={
  keep:=I.base.keep
  slot:=I.base.slot
  free:=λb o' q n hx=>by
   have z:=I.base.free b o' q n hx;rw[aO (by intro e;have w:=z;rw[e] at w;exact ha w)];exact z
  there:=I.base.there
  tups:=λb ys q=>by
   have z:=I.base.tups b ys q;rw[aO (by intro e;have w:=z;rw[e] at w;exact hn ys w)];exact z
  frzs:=λb o' u' q=>by
   have z:=I.base.frzs b o' u' q;rw[aO (by intro e;have w:=q;rw[e] at w;exact hf o' u' w)];exact z
  tbls:=λb ps q=>by
   obtain⟨m,z⟩:=I.base.tbls b ps q
   exact⟨m,by rw[aO (by intro e;have w:=z;rw[e] at w;exact hb _ w)];exact z⟩}
 loc:=I.loc
 cell:=I.cell
 free:=by rw[aO (by intro e;have w:=I.free;rw[e] at w;exact ha w)];exact I.free
 freeC:=λx c q=>by rw[aO (by intro e;have w:=I.freeC x c q;rw[e] at w;exact ha w)];exact I.freeC x c q
 pin:=λp hp=>by
  obtain⟨h1,h2,h3,h4,h5⟩:=I.pin p hp;exact⟨h1,by rw[aO (by intro e;have w:=h2;rw[e] at w;exact ha w)];exact h2,h3,h4,h5⟩
 hok:=λb u' q=>by
  by_cases e:b=a
  ·subst e;rw[bN] at q;cases q;exact new
  ·rw[aO e] at q
   exact(I.hok b u' q).stay (λ_ _ _ z=>z) (λc z=>by rw[aO (by intro e;have w:=z;rw[e] at w;exact ho b w)];exact z) λc ys z=>by rw[aO (by intro e;have w:=z;rw[e] at w;exact hn ys w)];exact z
 len:=I.len
theorem Inv.base0(I:Inv X pins σ H s)(e:H a=some (.dT xs)):∀o u,X.H₀ a≠some (.frz o u):=λo u z=>by
 have:=I.base.frzs a o u z
 rw[e] at this;cases this
theorem Inv.freeze(I:Inv X pins σ H s)(e:H a=some (.dT xs)):∃o,s.heap.get? a=some o/\Inv X pins σ (upd H a (.frz o (.dT xs))) s:=by
 have b:=I.hok a _ e
 obtain⟨o,d⟩:∃u,s.heap.get? a=some u:=by
  obtain⟨_,_,_,_,_,_,_,z,_⟩:=b;exact⟨_,z⟩
 refine⟨o,d,I.reword (by rw[e];exact λz=>nomatch z) (by rw[e];exact λ_ z=>nomatch z) (by rw[e];exact λ_ z=>nomatch z) (by rw[e];exact λ_ z=>nomatch z) (I.base0 e) ⟨d,?_⟩⟩
 exact cF.stay b (λ_ _ _ z=>z) (λc z=>by rw[aO (λq=>by rw[q,e] at z;cases z)];exact z) λc f z=>by rw[aO (λq=>by rw[q,e] at z;cases z)];exact z
theorem Inv.thaw(I:Inv X pins σ H s)(e:H a=some (.frz o (.dT xs)))(d:∀o u,X.H₀ a≠some (.frz o u)):Inv X pins σ (upd H a (.dT xs)) s:=by
 obtain⟨g,b⟩:=(show cF X.prog X.w H s.heap a (.frz o (.dT xs)) from I.hok a _ e);refine I.reword (by rw[e];exact λz=>nomatch z) (by rw[e];exact λ_ z=>nomatch z) (by rw[e];exact λ_ z=>nomatch z) (by rw[e];exact λ_ z=>nomatch z) d ?_
 exact cF.stay b (λ_ _ _ z=>z) (λc z=>by rw[aO (λq=>by rw[q,e] at z;cases z)];exact z) λc f z=>by rw[aO (λq=>by rw[q,e] at z;cases z)];exact z
end
section
variable {prog:Program}{w:World}{A:Around}{E:Value->Shared->Prop}{s:Shared}
theorem Zk{d:Addr}{o:Obj}{es:Array DictEntry}{f:Nat}{Q:Value->Shared->Prop}(hd:(d == sysModules)=false)(b:s.heap.get? d=some o)(g:o.ExactDict)(a:o.data=.dict es f)
  (h:Q (.ref s.heap.objs.size) {s with heap:=s.heap.push {cls:=.type "dict_keyiterator",data:=.fields #[.ref d,.int 0 0,.int es.size 0,.int f 0]}}):
  wpAny (model prog w) A (pyIter (.ref d)) Q E s:=by
 have c:s.TypeIs (.ref d) "dict":=⟨o,b,g.1⟩;refine wpAny_pyIter_slot c PySem.F.slot_dict_iter (wpAny_call_entry PySem.F.slot_dict_iter c PySem.F.entry_dict_iter ?_ (PySem.F.args_dict_iter_1 _));unfold Builtin.«dict.__iter__»;refine za ?_;unfold Builtin.Dict.dictSlotNone;refine za (wpAny_notOrdered_dict c ?_);show wpAny _ _ (pure (Value.ref d)) _ _ s;refine zc ?_;show wpAny _ _ (Builtin.Dict.showsAll d >>= _) _ _ s;unfold Builtin.Dict.showsAll;rw[if_neg (by rw[hd];exact zh)];refine za (zc ?_);refine za (wpAny_dictEntries b a ?_);refine za (wpAny_dictEpoch b a ?_);refine za (wpAny_newObj_type (zc ⟨_,rfl,"dict_keyiterator",_,⟨_,zG _ rfl,rfl⟩,PySem.F.slot_dict_keyiterator_next.lookup,?_⟩))
 simpa [rawInt] using h
theorem Zm{it d:Addr}{i n g:Nat}{l:Obj}{es:Array DictEntry}{Q:Option Value->Shared->Prop}(a:s.heap.IsKeyIter it d i n g)(b:s.heap.get? d=some l)(c:l.data=.dict es g)(hsz:es.size=n)(j:i<n)
  (q:∀h',h'.IsKeyIter it d (i+1) n g->Heap.SameBut it s.heap h'->Q (some (es[i]'(by omega)).key) {s with heap:=h'}):
  wpAny (model prog w) A (pyNext (.ref it)) Q E s:=by
 obtain⟨o,h,m,hd⟩:=id a;unfold pyNext
 refine za (wpAny_attempt (wpAny_callSpecial?_slot (name:=Str.ofString "__next__") a.typeIs PySem.F.slot_dict_keyiterator_next
  (wpAny_call_entry PySem.F.slot_dict_keyiterator_next a.typeIs PySem.F.entry_dict_keyiterator_next ?_ (PySem.F.args_dict_keyiterator_next_1 _))))
 refine za (zc ?_);refine za ?_;refine za ?_
 first | refine za (wpAny_typeNameOfWhole_keyiter a.typeIs (zc ?_)) | refine za (wpAny_typeNameOf_keyiter a.typeIs (zc ?_))
 refine za (wpAny_fieldsOf h hd ?_)
 have f:Builtin.Dict_items.ownsTuple "dict_keyiterator" = false:=by decide
 simp only[f,Bool.false_eq_true,if_false];show wpAny _ _ (if(Value.ref d == Value.none)=true then _ else _) _ _ s;rw[if_neg (show ¬((Value.ref d == Value.none)=true) from zh)];refine za (zc ?_);refine za (wpAny_dictEntries b c ?_);rw[if_neg (by rw[hsz];simp)];refine za (zc ?_);refine za (wpAny_dictEpoch b c ?_);rw[if_neg (by simp)];refine zc ?_
 have hlt':i<es.size:=by rw[hsz];exact j
 simp only[show ¬((i:Int)<0) from by omega,if_false,Int.toNat_natCast,Array.getElem?_eq_getElem hlt'];refine za ?_
 first | refine za (wpAny_typeNameOfWhole_keyiter a.typeIs (zc ?_)) | refine za (wpAny_typeNameOf_keyiter a.typeIs (zc ?_))
 refine za (wpAny_isOneOf_keyiter a.typeIs ?_);show wpAny _ _ (setField (.ref it) 1 (rawInt ((i:Int)+1)) >>= _) _ _ s;refine za (wpAny_setField h hd (by simp) ?_);have hit':(s.heap.update it (Obj.mapFields (·.setIfInBounds 1 (rawInt ((i:Int)+1))))).IsKeyIter it d (i+1) n g :=
  ⟨_,Heap.get?_update_self _ h (Obj.isFreed_of_fields (Obj.data_mapFields hd _)),(Obj.cls_mapFields ..).trans m,by rw[Obj.data_mapFields hd];simp[rawInt]⟩
 refine za (zZ ?_);refine za (wpAny_isOneOf_keyiter (s:={s with heap:=s.heap.update it (Obj.mapFields (·.setIfInBounds 1 (rawInt ((i:Int)+1))))}) hit'.typeIs ?_);show wpAny _ _ (pure es[i].key) _ _ _;exact zc (zc ⟨_,rfl,zc (q _ hit' (Heap.SameBut.update ..))⟩)
theorem Zn{it d:Addr}{i n r:Nat}{l:Obj}{es:Array DictEntry}{Q:Option Value->Shared->Prop}(u:A.handled=none)(c:s.heap.IsKeyIter it d i n r)(f:s.heap.get? d=some l)(g:l.data=.dict es r)(hsz:es.size=n)(j:n<=i)
  (x:∀h',Heap.ExtBut it s.heap h'->Q none {s with heap:=h'}):wpAny (model prog w) A (pyNext (.ref it)) Q E s:=by
 obtain⟨o,q,y,hd⟩:=id c;unfold pyNext
 refine za (wpAny_attempt (wpAny_callSpecial?_slot (name:=Str.ofString "__next__") c.typeIs PySem.F.slot_dict_keyiterator_next
  (wpAny_call_entry PySem.F.slot_dict_keyiterator_next c.typeIs PySem.F.entry_dict_keyiterator_next ?_ (PySem.F.args_dict_keyiterator_next_1 _))))
 refine za (zc ?_);refine za ?_;refine za ?_
 first | refine za (wpAny_typeNameOfWhole_keyiter c.typeIs (zc ?_)) | refine za (wpAny_typeNameOf_keyiter c.typeIs (zc ?_))
 refine za (wpAny_fieldsOf q hd ?_)
 have h:Builtin.Dict_items.ownsTuple "dict_keyiterator" = false:=by decide
 simp only[h,Bool.false_eq_true,if_false];show wpAny _ _ (if(Value.ref d == Value.none)=true then _ else _) _ _ s;rw[if_neg (show ¬((Value.ref d == Value.none)=true) from zh)];refine za (zc ?_);refine za (wpAny_dictEntries f g ?_);rw[if_neg (by rw[hsz];simp)];refine za (zc ?_);refine za (wpAny_dictEpoch f g ?_);rw[if_neg (by simp)];refine zc ?_
 have hge':es.size<=i:=by rw[hsz];exact j
 simp only[show ¬((i:Int)<0) from by omega,if_false,Int.toNat_natCast,Array.getElem?_eq_none hge'];refine za ?_
 first | refine za (wpAny_typeNameOfWhole_keyiter c.typeIs (zc ?_)) | refine za (wpAny_typeNameOf_keyiter c.typeIs (zc ?_))
 show wpAny _ _ (setField (.ref it) 0 .none >>= _) _ _ s;refine za (wpAny_setField q hd (by simp) ?_);show wpAny _ _ (newExc (.type "StopIteration") [] >>= _) _ _ _;refine za ?_;simp only[newExc,newTuple];refine za (wpAny_newObj_type ?_ (by size_fits));refine za (m:=firstArgMember _ _) (wpAny_of_eq (a:=Value.none) (by first | rfl | (simp only[firstArgMember];rfl)) ?_);refine wpAny_newObj_type ?_ (by size_fits);simp only[raiseNew];refine za (wpAny_handled ?_);rw[show A.in1.handled=none from u];refine za (zc (wpAny_throw ?_));refine za (wpAny_isInstance (T:="StopIteration") (b:=true) ⟨_,zG _ rfl,rfl⟩ isSubtype_stop ?_)
 exact zc (x _ (((Heap.SameBut.update ..).extBut.push _).push _))
end
def Itq(a:Addr)(o:Obj):It :=
 ⟨λi H=>∃c:List (List Key×V),H a=some (.frz o (.dT c))/\i<c.length,
  λi H x d=>d=H/\∀c:List (List Key×V),H a=some (.frz o (.dT c))->∃b p,x=.ref b/\c[i]?=some p/\H b=some (.tup (p.1.map kV)),
  λi H=>∃c:List (List Key×V),H a=some (.frz o (.dT c))/\c.length<=i⟩
theorem Zo{α β:Type}{R:α->β->Prop}{l:List α}{m:List β}(h:Paired R l m):∀{i:Nat}{x:α}{y:β},l[i]?=some x->m[i]?=some y->R x y:=by
 induction h with
 |nil=>intro i x y h;cases h
 |cons a b ih =>
  intro i x y h1 h2
  cases i with
  |zero=>cases h1;cases h2;exact a
  |succ i=>exact ih h1 h2
theorem Br{X:Cx}{pins:List (Addr×Obj)}{σ:St}{H:Hp}{s:Shared}{a:Addr}{o:Obj}{ys:List (List Key×V)}(I:Inv X pins σ H s)(e:H a=some (.frz o (.dT ys))):
  s.heap.get? a=some o/\(a == sysModules)=false/\o.ExactDict/\∃es f,o.data=.dict es f/\es.size=ys.length/\∀(i:Nat) (h:i<es.size),∃b p,es[i].key=.ref b/\ys[i]?=some p/\H b=some (.tup (p.1.map kV)):=by
 obtain⟨h1,z,y,c,r,n,es,f,h2,h3,h4,l,x⟩:=(show cF X.prog X.w H s.heap a (.frz o (.dT ys)) from I.hok a _ e);rw[h1] at h2;cases h2
 have u:es.size=c.length:=by rw[<-Array.length_toList,l,zd]
 have q:ys.length=c.length:=r.length;refine⟨h1,y,h3,es,f,h4,by omega,λi hi=>?_⟩
 have j:i<c.length:=by omega
 have g:i<ys.length:=by omega
 have d:es.toList[i]?=some (entryOfKey (tupleKind (eQ X.prog X.w)) c[i]):=by rw[l,zF,zv j];rfl
 rw[Array.getElem?_toList,Array.getElem?_eq_getElem hi] at d;have m:=Zo r (zv g) (zv j);refine⟨c[i].2.1,ys[i],?_,zv g,m.2.1⟩
 injection d with d
 rw[d];rfl
theorem Zq{P:Program}{w:World}{K:Frag}{tg:Expr}(a it:Addr)(o:Obj)(es:Array DictEntry)(ep:Nat)(hd:o.data=.dict es ep):Turn P w K tg (Itq a o) [it] it (λi h=>h.IsKeyIter it a i es.size ep) where
 mem:=by simp
 obj:=λi h st b hb=>by
  have e:b=it:=by simpa using hb
  subst e;obtain⟨o,e,c,d⟩:=st;exact⟨o,e,λv z=>by rw[d] at z;cases z⟩
 keep:=λi h h' st k=>st.at λo e=>k it (by simp) o e
 item:=by
  intro X hP hw hK hc i pins s σ H E I hf st hg;subst hP hw hK;obtain⟨ys,hq,hlt⟩:=hg;obtain⟨q1,q2,q3,es',ep',q4,q5,q6⟩:=Br I hq;rw[hd] at q4;cases q4;obtain⟨f0,f1,f2,f3,f4,f5⟩:=hf it (by simp)
  have hi:i<es.size:=by omega
  refine Zm st q1 hd rfl hi λh' st' sb=>?_
  have I1:Inv X pins σ H {s with heap:=h'}:=I.turned (t':=s.toks) (λb o hb e=>(sb.2 b hb).trans e) f0 f1 f3 f4 f5;obtain⟨b,p,k1,k2,k3⟩:=q6 i hi;rw[k1];obtain⟨o2,e,c,d⟩:=id st';refine⟨_,rfl,m8 (s:={s with heap:=h'}) e c d (by decide) ⟨.ref b,H,I1,rfl,⟨rfl,λzs hz=>?_⟩,st',λb hb=>(hf b hb).1⟩⟩;rw[hq] at hz;cases hz;exact⟨b,p,rfl,k2,k3⟩
 done:=by
  intro X hP hw hK hc i pins s σ H E I hf st hg;subst hP hw hK;obtain⟨ys,hq,hge⟩:=hg;obtain⟨q1,q2,q3,es',ep',q4,q5,q6⟩:=Br I hq;rw[hd] at q4;cases q4;obtain⟨f0,f1,f2,f3,f4,f5⟩:=hf it (by simp)
  exact Zn (I.ok.hd hc) st q1 hd rfl (by omega) λh' eb=>⟨rfl,I.turned (t':=s.toks) (λb o hb e=>eb b o hb e) f0 f1 f3 f4 f5⟩
 self:=λ_ _ _ _ _ st h=>wpAny_pyIter_keyiter st h
def Zr(tl:TE):TI:=λσ H R=>tl σ H λx c=>∃a b,x=.ref a/\c a=some (.dT b)/\∀o,R (Itq a o) (upd c a (.frz o (.dT b)))
theorem Zt{X:Cx}{i l:Expr}{tl:TE}(r:PE X l tl):PI X i l (Zr tl):=by
 intro pins s σ H R I h
 refine thn (r pins s σ H _ I h) λv s1 ⟨x,H1,I1,r1,d⟩=>?_
 obtain⟨a,g,e,n,q⟩:=d;subst e;cases r1;obtain⟨o,E,c⟩:=I1.freeze n;obtain⟨d,m,j,y,z,f,C,B⟩:=Br c bN;refine Zk m d j f ?_;refine⟨s1.heap.objs.size,[s1.heap.objs.size],_,_,upd H1 a (.frz o (.dT g)),rfl,c.kept (t':=s1.toks) λb o e=>zq _ e,Zq a _ o y z f,⟨_,zG _ rfl,rfl,rfl⟩,λb u=>?_,q o⟩
 have e:b=s1.heap.objs.size:=by simpa using u
 subst e;exact c.fpOk (zb _) (c.hok.fresh (zb _))
section
variable {K:Frag}{mg:Str->Option Value}{O:ak}{H F:Hp}{as:List Addr}
theorem Gr.tupF{b:Addr}{xs:List V}(hb:H b=some (.tup xs))(c:F b=none):Gr H F as H (upd F b (.tup xs)) as :=
 ⟨λa o e _ hd=>aO (λz=>by rw[z,hb] at e;cases e;cases hd),λa u e=>by rw[aO (cN e c)];exact e,⟨[],by simp,λ_ h=>nomatch h⟩,λ_ _ h _ _=>h,λ_ h=>h,λ_ _ _ h=>h⟩
theorem RlO.noT{b:Addr}{xs:List V}(r:RlO K mg O H F as)(hb:H b=some (.tup xs)):b∉as:=λf=>by
 obtain⟨n,d,e⟩:=List.mem_iff_getElem.mp f
 have g:n<O.length:=by rw[<-r.len];exact d
 have q:=r.ob n b O[n] (by rw[zv d,e]) (zv g)
 revert q
 cases O[n] with
 |ins c fs=>rintro⟨C,i,h,_,h2,_⟩;rw[hb] at h2;cases h2
 |ml j=>rintro⟨xs,h1,_⟩;rw[hb] at h1;cases h1
 |dt a=>rintro⟨xs,h1,_⟩;rw[hb] at h1;cases h1
 |df a=>rintro⟨o,xs,h1,_⟩;rw[hb] at h1;cases h1
 |dk a=>rintro⟨xs,h1,_⟩;rw[hb] at h1;cases h1
theorem Bs:∀a:List Key,Rps K F as (a.map kV) (a.map vD)
 | []=>Rps.nil
 | .inl i::a=>Rps.cons (show Rp K F as (.int i) (.int i) from rfl) (Bs a)
 | .inr x::a=>Rps.cons (show Rp K F as (.str x) (.str x.cps.toList) from by
   show V.str x=V.str (S x.cps.toList)
   rw[show S x.cps.toList=x by cases x;simp[S]]) (Bs a)
theorem RlO.df{n:Nat}{a:Addr}{b:List (List Key×D)}(r:RlO K mg O H F as)(c:as[n]?=some a)(d:O[n]?=some (.df b)):∃o xs,H a=some (.frz o (.dT xs))/\DtR K F as xs b:=let ⟨o,xs,h1,h2,h3⟩:=r.ob n a _ c d;⟨o,xs,h1,h2,h3⟩
end
section
variable {X:Cx}{md:List Md}{P:Pt}{R:RR}
def Bt(p:List Key×D):D:=.tup (p.1.map vD)
def pX(m:M D):M (List D):=λρ O=>(m ρ O).bind λd a=>match d with
 | .ob n=>match a[n]? with
  |some (.dt kvs)=>.ok (kvs.map Bt) (a.set n (.df kvs))
  | _=>.no
 | _=>.no
theorem Zu{U e:Expr}{m:M D}(h:VE X md P e m):VI X md P U e (pX m):=(Zt h).imp λσ H Q q=>by
 obtain⟨ρ,O,F,as,ds,O',r,s,e,k⟩:=q;obtain⟨d,O1,e1,e⟩:=Res.bind_ok e;split at e
 ·rename_i n;split at e
  ·rename_i c e2;cases e;refine⟨ρ,_,F,as,_,_,r,s,e1,λv H1 F1 I g1 T hv=>?_⟩;obtain⟨a,rfl,B⟩:=Rp.unO hv;obtain⟨xs,J,f⟩:=T.dt B e2;refine⟨a,xs,rfl,J,λo=>k (Itq a o) (upd H1 a (.frz o (.dT xs))) F1 I (g1.trans (tQ (zR B) J)) (T.mutG B ⟨o,xs,bN,f.1,f.2⟩) ⟨λi d H2 g l C L hd=>?_,λH2 g l C L=>?_⟩⟩
   ·have hz:=C.kz a o _ bN
    have hi:i<c.length:=by have:=(zl.mp hd).1;rwa [zd] at this
    have hi':i<xs.length:=by rw[f.len];exact hi
    refine⟨⟨xs,hz,hi'⟩,λx H3 y=>?_⟩;obtain⟨rfl,W⟩:=y;obtain⟨b,p,rfl,Y,z⟩:=W xs hz
    have Z:p.1=c[i].1:=by
     have h1:(xs.map (·.1))[i]?=some p.1:=by rw[zF,Y];rfl
     rw[f.1,zF,zv hi] at h1
     injection h1 with h1
     exact h1.symm
    rw[zF,zv hi] at hd
    injection hd with hd
    subst hd
    have j:∀E:Hp,E b=some (.tup (p.1.map kV))->Rp X.K E l (.ref b) (Bt c[i]):=λE h3=>⟨b,_,rfl,.inl h3,by rw[<-Z];exact Bs p.1⟩
    cases hF:g b with
    |some u =>
     obtain⟨O2,G⟩:=L
     have:=G.fh b u hF
     rw[z] at this;cases this;exact⟨g,Gr.refl,λ_ r=>r,j g hF⟩
    |none=>exact⟨upd g b (.tup (p.1.map kV)),Gr.tupF z hF,λ_ r=>r.frz z hF (r.noT z) rfl,j _ bN⟩
   ·exact⟨xs,C.kz a o _ bN,by rw[zd,f.len];exact zb _⟩
  ·cases e
 ·cases e
end
def pY(i:Nat)(ms:MS):MS:=λρ O=>match ρ[i]? with
 |some (some (.ob n))=>match O[n]? with
  |some (.dt _)=>match ms ρ O with
   | .nx ρ2 O2=>match O2[n]? with
    |some (.df kvs)=>.nx ρ2 (O2.set n (.dt kvs))
    | _=>.no
   | _=>.no
  | _=>.no
 | _=>.no
section
variable {K:Frag}{mg:Str->Option Value}{md:List Md}{P:Pt}{ρ:az}{σ:St}{O:ak}{H F H' F':Hp}{as as':List Addr}
theorem fY.reH{m:Md}{v:V}{d:D}{a:Addr}{h:HO}(q:fY P K H F as m v d)(u:a∈as):fY P K (upd H a h) F as m v d:=by
 cases m with
 |v=>exact q
 |s =>
  rcases q with q | ⟨c,f,r,n,l,j,b,i,g⟩
  ·exact .inl q
  ·exact .inr ⟨c,f,r,n,l,by rw[aO (λz=>b (by rw[z];exact u))];exact j,b,i,g⟩
 |o =>
  rcases q with⟨h1,q⟩ | ⟨c,f,r,n,l,j,x,b,i,g⟩
  ·exact .inl ⟨h1,q⟩
  ·exact .inr ⟨c,f,r,n,l,by rw[aO (λz=>b (by rw[z];exact u))];exact j,x,b,i,g⟩
theorem SlO.reH{a:Addr}{h:HO}(s:SlO K md P ρ σ H F as)(b:a∈as):SlO K md P ρ σ (upd H a h) F as :=
 ⟨s.len,s.len',λc p z=>s.pd c p (by
  by_cases e:c=a
  ·rw[e,bN] at z;cases z
  ·rwa [aO e] at z),λi m d g f=>let ⟨v,q,r⟩:=s.sl i m d g f;⟨v,q,r.reH b⟩,s.inj,s.pin⟩
theorem SlO.obAt{i n:Nat}(s:SlO K md P ρ σ H F as)(e:ρ[i]?=some (some (.ob n))):∃a,as[n]?=some a:=by
 have hi:i<md.length:=by rw[<-s.len'];exact(zl.mp e).1
 obtain⟨v,_,q⟩:=s.sl i _ _ (zv hi) e
 have b:Rp K F as v (.ob n):=by
  revert q
  cases md[i] with
  |v=>exact λq=>q
  |s =>
   rintro(q | ⟨a,xs,ds,_,z,_⟩)
   ·exact q
   ·cases z
  |o =>
   rintro(⟨_,q⟩ | ⟨a,xs,ds,_,z,_⟩)
   ·exact q
   ·cases z
 obtain⟨a,_,c⟩:=Rp.unO b;exact⟨a,c⟩
theorem GrS.reH{a:Addr}{h:HO}{xs:List (List Key×V)}(g:GrS P H F as H' F' as')(f:a∈as)(d:H a=some (.dT xs)):GrS P H F as (upd H' a h) F' as' :=
 ⟨g.fz,g.ff,g.nw,λc o p e b hd=>by rw[aO (λz=>b (by rw[z];exact f))];exact g.fr c o p e b hd,λc e=>by
  by_cases z:c=a
  ·rw[z,bN] at e;cases e
  ·rw[aO z] at e;exact g.dm c e,λc o u e=>by rw[aO (λz=>by rw[z,d] at e;cases e)];exact g.kz c o u e⟩
end
section
variable {X:Cx}{md:List Md}{P:Pt}{R:RR}
theorem Zv(i:Nat){st:Stmt}{ms:MS}(h:VS X md P R st ms):VS X md P R st (pY i ms):=λpins s σ H D I q=>by
 obtain⟨ρ,O,F,C,r,sl,k⟩:=q;unfold pY at k;split at k
 ·rename_i n W;split at k
  ·rename_i kv0 U;split at k
   ·rename_i m Y T;split at k
    ·rename_i kvs Q;obtain⟨a,l⟩:=sl.obAt W;obtain⟨xs0,y,_⟩:=r.dt l U;have L:=I.base0 y
     refine thn (h pins s σ H {nx:=λb d=>∃j c,GrS P H F C d j c/\RlO X.K X.mg Y d j c/\SlO X.K md P m b d j c,rt:=λ_ _=>False} I ⟨ρ,O,F,C,r,sl,by rw[T];exact λb d j c g r s=>⟨j,c,g,r,s⟩⟩) λf s' z=>?_
     cases f with
     |next =>
      obtain⟨b,d,Z,j,c,g,B,J⟩:=z;have ha':=g.at_ n a l;have hm':=zR ha';obtain⟨o,G,E,x⟩:=B.df ha' Q;exact⟨b,_,Z.thaw E L,k b _ j c (g.reH (zR l) y) (B.mutG ha' ⟨G,bN,x.1,x.2⟩) (J.reH hm')⟩
     |brk=>obtain⟨b,d,_,z⟩:=z;exact z.elim
     |cont=>obtain⟨b,d,_,z⟩:=z;exact z.elim
     |ret u=>obtain⟨v,b,d,_,_,z⟩:=z;exact z.elim
    ·exact False.elim k
   ·exact False.elim k
  ·exact False.elim k
 ·exact False.elim k
def tsG(n:Nat)(y:D)(O:ak):Res D:=match tU y,O[n]? with
 |some k,some (.df kvs)=>match gH kvs k with
  |some d=>.ok d O
  |none=>.no
 | _,_=>tsF n y O
def dH(mo my:M D):M D:=λρ O=>(mo ρ O).bind λx b=>match x with
 | .ob n=>(my ρ b).bind λy a=>tsG n y a
 | _=>.no
theorem tY{kk:Nat}(G:bD X.K=true)(C:bA kk X.A){o i:Expr}{h:Pos}{mo my:M D}(E:VE X md P o mo)(hi:VE X md P i my)(B:rR i:=by intro _ _;rfl):VE X md P (.Subscript o i h) (dH mo my):=λpins s σ H Q I q=>by
 obtain⟨ρ,O,F,W,d,O',r,sl,e,k⟩:=q;obtain⟨x,O1,U,e⟩:=Res.bind_ok e
 cases x with
 |ob n =>
  obtain⟨y,O2,T,e⟩:=Res.bind_ok e;unfold tsG at e;split at e
  ·rename_i z kvs e3 e4;split at e
   ·rename_i d' c;cases e;refine Ak (ph C) E hi B pins s σ H Q I ⟨ρ,_,F,W,_,_,r,sl,U,λx H1 F1 l L r1 hx=>⟨ρ,_,F1,l,_,_,r1,sl.step L,T,λu H2 F2 j J g hu=>?_⟩⟩;obtain⟨a,rfl,ha⟩:=Rp.unO hx;obtain⟨o,Z,x1,x2⟩:=g.df (J.at_ n a ha) e4;obtain⟨b,rfl,hb⟩:=Rp.tkey G hu e3
    rcases x2.val (k:=z) with⟨f,m⟩ | ⟨d2,v',f,m,Y⟩
    ·rw[f] at c;cases c
    ·rw[f] at c;cases c;refine⟨a,v',rfl,?_,k _ H2 F2 j (L.trans J) g Y⟩;rw[<-m];exact .inr ⟨Z,z,b,.inr ⟨o,x1⟩,rfl,g.fh _ _ hb,rfl⟩
   ·cases e
  ·refine Zb G C E hi B pins s σ H Q I ⟨ρ,O,F,W,d,O',r,sl,?_,k⟩;unfold Ld;rw[U];show Res.bind (my ρ O1) _=_;rw[T];exact e
 | _=>cases e
end
section
variable {X:Cx}{md:List Md}{P:Pt}{R:RR}
end
section
variable {prog:Program}{w:World}
end
section
variable {X:Cx}{md:List Md}{P:Pt}{R:RR}
end
def bQ(a:List (Key×D))(k:Key):Option D:=(a.find? λp=>decide (p.1=k)).map (·.2)
def gK(a:List (Key×D))(k:Key)(d:D):List (Key×D):=
 if(a.any λp=>decide (p.1=k))=true then a.map (λp=>if p.1=k then(p.1,d) else p) else a++[(k,d)]
def DkR(K:Frag)(F:Hp)(as:List Addr)(xs:List (Key×V))(a:List (Key×D)):Prop:=xs.map (·.1)=a.map (·.1)/\Rps K F as (xs.map (·.2)) (a.map (·.2))
section
variable {K:Frag}{mg:Str->Option Value}{O:ak}{H F H' F':Hp}{as as':List Addr}
theorem DkR.len{xs:List (Key×V)}{a:List (Key×D)}(h:DkR K F as xs a):xs.length=a.length:=by
 have:=congrArg List.length h.1
 simpa using this
theorem DkR.un{xs:List (Key×V)}{p:Key×D}{a:List (Key×D)}(h:DkR K F as xs (p::a)):∃v r,xs=(p.1,v)::r/\Rp K F as v p.2/\DkR K F as r a:=by
 obtain⟨h1,h2⟩:=h
 cases xs with
 |nil=>cases h1
 |cons x r =>
  obtain⟨v,f,e,d,c⟩:=h2.un;cases e;rw[ze,ze] at h1;have b:=(List.cons.inj h1).1;refine⟨x.2,r,?_,d,(List.cons.inj h1).2,c⟩;rw[<-b]
theorem DkR.val{k:Key}:∀{a:List (Key×D)}{xs:List (Key×V)},DkR K F as xs a->(bQ a k=none/\fG xs k=none)\/∃d v,bQ a k=some d/\fG xs k=some v/\Rp K F as v d
 | [],xs,h=>by
  have:=h.len
  cases xs with
  |nil=>exact .inl ⟨rfl,rfl⟩
  |cons=>cases this
 |p::a,xs,h=>by
  obtain⟨v,r,rfl,h1,h2⟩:=h.un
  by_cases e:p.1=k
  ·exact .inr ⟨p.2,v,by simp[bQ,List.find?_cons,e],rY e,h1⟩
  ·rw[show bQ (p::a) k=bQ a k by simp[bQ,List.find?_cons,e],rZ (p:=(p.1,v)) e];exact DkR.val h2
theorem DkR.any{k:Key}:∀{a:List (Key×D)}{xs:List (Key×V)},DkR K F as xs a->(xs.any λp=>decide (p.1=k))=a.any λp=>decide (p.1=k)
 | [],xs,h=>by
  have:=h.len
  cases xs with
  |nil=>rfl
  |cons=>cases this
 |p::a,xs,h=>by
  obtain⟨v,r,rfl,h1,h2⟩:=h.un;rw[List.any_cons,List.any_cons,DkR.any h2]
theorem DkR.repl{k:Key}{v:V}{d:D}(hv:Rp K F as v d):∀{a:List (Key×D)}{xs:List (Key×V)},DkR K F as xs a ->
  DkR K F as (xs.map λp=>if p.1=k then(p.1,v) else p) (a.map λp=>if p.1=k then(p.1,d) else p)
 | [],xs,h=>by
  have:=h.len
  cases xs with
  |nil=>exact⟨rfl,Rps.nil⟩
  |cons=>cases this
 |p::a,xs,h=>by
  obtain⟨u,r,rfl,h1,h2⟩:=h.un;obtain⟨c,b⟩:=DkR.repl (k:=k) hv h2
  by_cases e:p.1=k
  ·rw[ze,ze,if_pos e,if_pos e];exact⟨by rw[ze,ze,c],Rps.cons hv b⟩
  ·rw[ze,ze,if_neg e,if_neg e];exact⟨by rw[ze,ze,c],Rps.cons h1 b⟩
theorem DkR.put{xs:List (Key×V)}{a:List (Key×D)}(h:DkR K F as xs a)(k:Key){v:V}{d:D}(hv:Rp K F as v d):DkR K F as (putK xs k v) (gK a k d):=by
 unfold putK gK;rw[h.any]
 split
 ·exact h.repl hv
 ·exact⟨by rw[zK,zK,h.1];rfl,by rw[zK,zK];exact Rps.snoc h.2 hv⟩
theorem RlO.dk{n:Nat}{a:Addr}{b:List (Key×D)}(r:RlO K mg O H F as)(c:as[n]?=some a)(d:O[n]?=some (.dk b)):∃xs,H a=some (.dK xs)/\DkR K F as xs b:=let ⟨xs,h1,h2,h3⟩:=r.ob n a _ c d;⟨xs,h1,h2,h3⟩
end
section
variable {X:Cx}{md:List Md}{P:Pt}{R:RR}
def n6:M D:=λ_ O=>.ok (.ob O.length) (O++[.dk []])
theorem Lf{b:Pos}:VE X md P (.Dict [] [] b) n6:=Wi.imp λσ H Q q p a=>by
 obtain⟨ρ,O,F,c,d,f,r,s,e,k⟩:=q;cases e;refine k _ _ F (c++[p]) (Gr.snoc a) ((r.lay a).snocO (r.unF a) (λz=>r.all z a) ⟨[],bN,rfl,Rps.nil⟩) (Rp.mkO ?_);rw[<-r.len,zC (zb _),Nat.sub_self];rfl
def mH(mo my a:M D):MS:=λρ O=>match a ρ O with
 | .ok d O1=>match mo ρ O1 with
  | .ok (.ob n) O2=>match my ρ O2 with
   | .ok y O3=>match keyOf y,O3[n]? with
    |some k,some (.dk kvs)=>if kvs.length<1000000 then .nx ρ (O3.set n (.dk (gK kvs k d))) else .no
    | _,_=>.no
   | _=>.no
  | _=>.no
 | _=>.no
theorem Lg{kk:Nat}(hr:bA kk X.A){o i value:Expr}{f pos':Pos}{mo my Q:M D}(ho:VE X md P o mo)(hi:VE X md P i my)(hv:VE X md P value Q)
  (hs:swapsWith value (some (.Subscript o i pos')) f.line X.env=pure false:=by rfl):VS X md P R (.Assign [.Subscript o i pos'] value f) (mH mo my Q):=
 (Jz (ph hr) ho hi hv hs).imp λD σ H q=>by
  obtain⟨ρ,O,F,as,r,s,k⟩:=q;unfold mH at k;split at k
  ·rename_i d O1 e1;split at k
   ·rename_i n O2 e2;split at k
    ·rename_i y O3 e3;split at k
     ·rename_i j kvs e4 e5;split at k
      ·rename_i hz;refine⟨ρ,O,F,as,_,_,r,s,e1,λv H1 W g z r1 hv=>⟨ρ,O1,W,g,_,_,r1,s.step z,e2,λx H2 F2 E m r2 hx=>⟨ρ,O2,F2,E,_,_,r2,s.step (z.trans m),e3,λu U h b l L hu=>?_⟩⟩⟩;obtain⟨a,rfl,ha⟩:=Rp.unO hx;have c:=l.at_ n a ha;obtain⟨G,J,I⟩:=L.dk c e5;have C:u=kV j:=(show Rp X.K h b u y from hu).key e4;subst C;have B:=(show Rp X.K W g v d from hv).gr (m.trans l)
       have hl:G.length<sizeLine:=by rw[I.len];exact zJ hz (by decide)
       have g4:Gr U h b (upd U a (.dK (putK G j v))) h b:=tQ (zR c) J;have T:=((z.trans m).trans l).trans g4;obtain⟨Z,Y⟩:=I.put j B;exact⟨a,_,rfl,lN.k J hl,k σ _ h b T.toS (L.mutG c ⟨_,bN,Z,Y⟩) (s.step T)⟩
      ·exact False.elim k
     ·exact False.elim k
    ·exact False.elim k
   ·exact False.elim k
  ·exact False.elim k
def iY(mo my:M D):M D:=λρ O=>(mo ρ O).bind λx b=>match x with
 | .ob n=>(my ρ b).bind λy a=>match keyOf y,a[n]? with
  |some k,some (.dk kvs)=>match bQ kvs k with
   |some d=>.ok d a
   |none=>.no
  | _,_=>.no
 | _=>.no
theorem Bu{U:Nat}(hr:bA U X.A){o i:Expr}{g:Pos}{mo my:M D}(ho:VE X md P o mo)(hi:VE X md P i my)(Z:rR i:=by intro _ _;rfl):VE X md P (.Subscript o i g) (iY mo my):=
 (Ak (ph hr) ho hi Z).imp λσ H Q q=>by
  obtain⟨ρ,O,F,as,d,O',r,s,e,k⟩:=q;obtain⟨x,O1,e1,e⟩:=Res.bind_ok e
  cases x with
  |ob n =>
   obtain⟨y,O2,e2,e⟩:=Res.bind_ok e;split at e
   ·rename_i z kvs e3 e4;split at e
    ·rename_i d' c;cases e;refine⟨ρ,_,F,as,_,_,r,s,e1,λx H1 F1 j C T W=>⟨ρ,_,F1,j,_,_,T,s.step C,e2,λu H2 E b B m Y=>?_⟩⟩;obtain⟨a,rfl,ha⟩:=Rp.unO W;obtain⟨xs,J,I⟩:=m.dk (B.at_ n a ha) e4;have h:u=kV z:=(show Rp X.K E b u y from Y).key e3;subst h
     rcases I.val (k:=z) with⟨f,l⟩ | ⟨d2,L,f,l,G⟩
     ·rw[f] at c;cases c
     ·rw[f] at c;cases c;refine⟨a,L,rfl,?_,k _ H2 E b (C.trans B) m G⟩;rw[<-l];exact gZ.k J
    ·cases e
   ·cases e
  | _=>cases e
def n8(a:Bool)(my mo:M D):M D:=λρ O=>(my ρ O).bind λy c=>(mo ρ c).bind λx b=>match x with
 | .ob n=>match keyOf y,b[n]? with
  |some k,some (.dk kvs)=>.ok (.bl (a != (bQ kvs k).isSome)) b
  | _,_=>.no
 | _=>.no
theorem Zw{mo my:M D}{σ:St}{H:Hp}{Q:VK}(q:tM X.K X.mg md P (rO X.K) (n8 true my mo) σ H Q):Jy (tM X.K X.mg md P (rV X.K) my) (tM X.K X.mg md P (rV X.K) mo) σ H Q:=by
 obtain⟨ρ,O,F,as,d,O',r,s,e,k⟩:=q;obtain⟨y,O1,Z,e⟩:=Res.bind_ok e;obtain⟨x,O2,Y,e⟩:=Res.bind_ok e;split at e
 ·rename_i n;split at e
  ·rename_i m kvs W U;cases e;refine⟨ρ,_,F,as,_,_,r,s,Z,λu H1 C c j I L=>⟨ρ,_,C,c,_,_,I,s.step j,Y,λx z B b i h J=>?_⟩⟩;obtain⟨a,rfl,T⟩:=Rp.unO J;obtain⟨xs,G,E⟩:=h.dk T U;have l:u=kV m:=((show Rp X.K C c u y from L).gr i).key W;subst l;refine⟨a,_,rfl,gZ.k G,?_⟩
   rcases E.val (k:=m) with⟨g,f⟩ | ⟨d',v',g,f,z3⟩
   ·rw[g] at k;rw[f];exact k _ z B b (j.trans i) h (.inl ⟨rfl,Rp.bl⟩)
   ·rw[g] at k;rw[f];exact k _ z B b (j.trans i) h (.inl ⟨rfl,Rp.bl⟩)
  ·cases e
 ·cases e
theorem Zx{b:Nat}(c:bA b X.A){o i:Expr}{a:Pos}{mo my:M D}(hi:VE X md P i my)(d:VE X md P o mo)(f:behindInMarks .NotIn o=false:=by with_unfolding_all rfl):TsE X md P (.Compare i [.NotIn] [o] a) (aJ (n8 true my mo)):=
 (yP (We (ph c) hi d) f).imp λσ H Q h=>Zw (pA h)
end
section
variable {X:Cx}{md:List Md}{P:Pt}{R:RR}
end
section
variable {X:Cx}{md:List Md}{P:Pt}{R:RR}
theorem fY.int{K:Frag}{H F:Hp}{as:List Addr}{m:Md}{v:V}{a:Int}(h:fY P K H F as m v (.int a)):v=.int a:=by
 cases m with
 |v=>exact(show Rp K F as v (.int a) from h).unI
 |s =>
  rcases h with h | ⟨_,_,_,_,h,_⟩
  ·exact h.unI
  ·cases h
 |o =>
  rcases h with⟨_,h⟩ | ⟨_,_,_,_,h,_⟩
  ·exact h.unI
  ·cases h
def vV(i:Nat)(z:Int):M D:=λρ O=>match ρ[i]? with
 |some (some (.int a))=>.ok (.ob O.length) (O++[.dk [(.inl a,.int z)]])
 | _=>.no
theorem Zy(i:Nat){z:Int}{x:Str}{u:Expr}{p c:Pos}(hv:PE X u (tC (.int z)))(hN:X.N[i]?=some x:=by rfl)(g:Vis X.env.scope x:=by first | exact Or.inl rfl | exact Or.inr (Or.inl rfl) | exact Or.inr (Or.inr rfl))(hd:(x == ("__debug__":Str))=false:=by decide)(j:(x == ("__classdict__":Str))=false:=by decide):VE X md P (.Dict [some (.Name x p)] [u] c) (vV i z):=
 (Wo (Wm (lL (i:=i) hN g hd j) hv Wl) rfl rfl (λw=>nomatch w) (show 1<=15 by decide)).imp λσ H Q q p b=>by
  obtain⟨ρ,O,F,C,d,L,r,s,e,k⟩:=q;unfold vV at e;split at e
  ·rename_i a l;cases e;obtain⟨m,v,_,f,G⟩:=s.get l;have I:=G.int;subst I;refine⟨.int a,f,bN,[(.inl a,.int z)],rfl,show 1<=15 by decide,?_⟩;have E:=(r.lay (o:=.dK []) b).snocO (o:=.dk []) (r.unF b) (λw=>r.all w b) ⟨[],bN,rfl,Rps.nil⟩
   have B:(C++[p])[O.length]?=some p:=by
    rw[<-r.len,zC (zb _),Nat.sub_self];rfl
   have y:=E.mutG (n:=O.length) (h:=.dK [(.inl a,.int z)]) (o:=.dk [(.inl a,.int z)]) B ⟨_,bN,rfl,Rps.cons Rp.int Rps.nil⟩
   have J:(O++[Ob.dk []]).set O.length (.dk [(.inl a,.int z)])=O++[.dk [(.inl a,.int z)]]:=by
    rw[List.set_append_right _ _ (zb _),Nat.sub_self];rfl
   rw[J] at y;exact k _ _ F (C++[p]) ((Gr.snoc b).trans (tQ (zL _ (zk.mpr rfl)) bN)) y (Rp.mkO B)
  ·cases e
def iy:List Int->Option Int
 | []=>none
 |n::ns=>match iy ns with
  |some m=>some (if m<n then n else m)
  |none=>some n
theorem Bv:∀{ns:List Int}{M:Int},M∈ns->(∀a,a∈ns->a<=M)->iy ns=some M
 | [],M,h,_=>nomatch h
 |n::ns,M,h,hM=>by
  unfold iy
  rcases zo.mp h with rfl | h
  ·cases e:iy ns with
   |none=>rfl
   |some m =>
    dsimp only
    have:∀{ns:List Int}{m:Int},iy ns=some m->m∈ns:=by
     intro ns
     induction ns with
     |nil=>intro m h;cases h
     |cons n ns ih =>
      intro m h;unfold iy at h
      cases e:iy ns with
      |none=>rw[e] at h;cases h;exact zp
      |some k =>
       rw[e] at h;dsimp only at h;cases h
       split
       ·exact zp
       ·exact zt _ (ih e)
    have d:=hM m (zt _ (this e))
    by_cases b:m<M
    ·rw[if_pos b]
    ·rw[if_neg b];exact congrArg some (by omega)
  ·rw[Bv h λa c=>hM a (zt _ c)];dsimp only
   have:=hM n zp
   by_cases b:M<n
   ·omega
   ·rw[if_neg b]
def pZ:List D->Option D
 | [.lst ds]=>match eY ds with
  |some ns=>(iy ns).map D.int
  |none=>none
 | _=>none
theorem Zz(J:X.calm=true):gU X (.builtin "max") (λxs H Q=>∃(a:Addr) (ns:List Int) (M:Int),xs=[.ref a]/\SqL X.K H a (ns.map V.int)/\iy ns=some M/\Q (.int M) H):=by
 intro pins s σ H xs L Q I r h;obtain⟨a,ns,M,rfl,f,y,q⟩:=h;obtain⟨u,rfl,B⟩:=vals1 r;cases B;obtain⟨c,z,p,O⟩:=I.list f;have hi:=intsAre_of z;have x:=p.isList;obtain⟨xs,d⟩:=hi.allInts.items;have E:=hi.numsOf
 have m:0<ns.length:=by
  cases ns with
  |nil=>cases y
  |cons n ns=>exact Nat.succ_pos _
 have l:0<xs.size:=by
  have h1:c.toArray.size=xs.size:=by rw[d];simp[intItems]
  rw[<-h1,zr,hi.length];exact m
 rw[d] at x
 refine max_intList (I.ok.hd J) x l λv T tk C F=>?_
 obtain⟨t,rfl⟩:=intItems_at C;have g:numsOf c=numsOf c.toArray.toList:=rfl;rw[d,nums_intItems] at g;rw[E] at g;obtain⟨h1,h2⟩:=argBest_gt (numAt xs) (xs.size - 1)
 have b:=Bv (ns:=ns) (M:=numAt xs (argBest (λi j=>decide (numAt xs i>numAt xs j)) (xs.size - 1))) (by
  rw[g,numAt_eq]
  exact getD_mem (by rw[zd,Array.length_toList];omega)) (λa f=>by
  rw[g] at f;obtain⟨j,G,rfl⟩:=mem_getD f;rw[zd,Array.length_toList] at G;rw[<-numAt_eq]
  exact h2 j (by omega))
 rw[y] at b
 have:=zB b
 rw[<-this];exact⟨.int M,H,I.kept (t':=tk) F,⟨t,rfl⟩,q⟩
theorem ZC(l:X.calm=true):iR X (.builtin "max") pZ:=by
 intro pins s σ H c f Q I g h;obtain⟨O,F,q,n,d,r,b,e,k⟩:=h;unfold pZ at e;split at e
 ·rename_i m;obtain⟨v,rfl,j⟩:=b.one;obtain⟨a,c,rfl,h1,h2⟩:=j.list r.fh
  cases hi:eY m with
  |none=>rw[hi] at e;cases e
  |some ns =>
   rw[hi] at e;dsimp only at e
   cases hm:iy ns with
   |none=>rw[hm] at e;cases e
   |some M =>
    rw[hm] at e;cases e;have i:=h2.ints hi;exact Zz l pins s σ H _ f Q I g ⟨a,ns,M,rfl,by rw[<-i];exact h1.sq,hm,cj r k rfl Rp.int⟩
 ·cases e
end
end L2
namespace L2
open PySem PySem.Spec PyProof.Rows PySem.W PySem.Calls
section
variable {prog:Program}{w:World}{A:Around}{E:Value->Shared->Prop}{s:Shared}{a:Addr}{ss:List Str}
end
section
variable {prog:Program}{w:World}{A:Around}{E:Value->Shared->Prop}{s:Shared}{a:Addr}{ss:List Str}{o:Obj}{es:Array (Int×Value)}{ep:Nat}{t:SetTable}
end
section
variable {prog:Program}{w:World}{A:Around}{E:Value->Shared->Prop}{s:Shared}{a:Addr}{ss:List Str}{o:Obj}{es:Array (Int×Value)}{ep:Nat}{t:SetTable}
end
section
variable {X:Cx}
variable {md:List Md}{P:Pt}
end
structure QCl(mg:Str->Option Value):Prop extends K6 mg where
 set_:mg "set" = none
def lt2(a1 a2 a b:Str):Bool:=if a1=a then decide (a2.cps.toList<b.cps.toList) else decide (a1.cps.toList<a.cps.toList)
section
variable {prog:Program}{w:World}{A:Around}{E:Value->Shared->Prop}{s:Shared}{K:Frag}{H F:Hp}{as:List Addr}
end
section
variable {X:Cx}
end
end L2
namespace L2
open PySem PySem.Spec PyProof.Rows
section
variable {X:Cx}{md:List Md}{P:Pt}{R:RR}
end
def jJ(n L:Nat)(g:MG)(t:M Bool)(m:M D):Nat->az->ak->List D->Res (List D)
 | 0,ρ,O,acc=>match O[n]? with
  |some (.ml es)=>if es.length=L then .ok acc O else .no
  | _=>.no
 |k+1,ρ,O,acc=>match O[n]? with
  |some (.ml es)=>match es[L - (k+1)]? with
   |some d=>match g d ρ with
    |none=>.no
    |some a=>match t a O with
     | .ok true O1=>match m a O1 with
      | .ok y O2=>jJ n L g t m k a O2 (acc++[y])
      | _=>.no
     | .ok false O1=>jJ n L g t m k a O1 acc
     | _=>.no
   |none=>.no
  | _=>.no
def oh(m:M D)(own:Nat)(cap:List Nat)(g:MG)(t:M Bool)(e:M D):M D:=λρ O=>(m ρ O).bind λd a=>match d with
 | .ob n=>match a[n]? with
  |some (.ml ds)=>if ds.length<=1000000 then(jJ n ds.length g t e ds.length (iu own cap ρ) a []).bind λb c=>.ok (.lst b) c else .no
  | _=>.no
 | _=>.no
section
variable {X:Cx}{md:List Md}{P:Pt}
theorem ZD{K:Frag}{mg:Str->Option Value}{m:M D}{own:List Str}{cap:List Nat}{g:MG}{t:M Bool}{e:M D}(hcap:∀j∈cap,j<md.length){σ:St}{H:Hp}{Q:VK}(q:tM K mg md P (rO K) (oh m own.length cap g t e) σ H Q):
  vC (yQ K (tM K mg md P (rV K) m)) own cap (xMG K mg (cMd own.length cap md) g) (xMT K mg (cMd own.length cap md) t) (xM K mg (cMd own.length cap md) (rV K) e) σ H Q:=by
 obtain⟨ρ,O,F,as,d,OZ,r,s,l,k⟩:=q;obtain⟨d1,O1,e1,l⟩:=Res.bind_ok l;split at l
 ·rename_i n;split at l
  ·rename_i f e2;split at l
   ·rename_i hz;obtain⟨yf,O2,e3,l⟩:=Res.bind_ok l;cases l;refine⟨ρ,_,F,as,_,_,r,s,e1,λv H1 F1 J g1 r1 hv=>?_⟩;obtain⟨a,rfl,ha⟩:=Rp.unO hv;obtain⟨xs0,x1,x2⟩:=r1.ml ha e2;have sb:=J6 (own:=own) (s.step g1) hcap
    refine⟨a,rfl,⟨xs0,.inl (.inl x1)⟩,λi k T σ' Z=>k=f.length - i/\i<=f.length/\∃C R u b c,Gr H1 F1 J Z u b/\RlO K mg R Z u b/\SlO K (cMd own.length cap md) (Pt.all H1) C σ' Z u b/\Rps K u b T c/\c.length<=i /\
     jJ n f.length g t e (f.length - i) C R c=.ok yf OZ,⟨f.length,by simp,Nat.zero_le _,iu own.length cap ρ,O1,F1,J,[],Gr.refl,r1,sb,Rps.nil,zb _,by rw[Nat.sub_zero];exact e3⟩,?_⟩
    rintro i kk T σ' Z ⟨rfl,hi,C,R,u,b,c,g',r',s',hy,hl,ec⟩;have ha':=g'.at_ n a ha
    by_cases hlt:i<f.length
    ·rw[show f.length - i=(f.length - (i+1))+1 by omega] at ec;unfold jJ at ec;split at ec
     ·rename_i es ee;obtain⟨U,y1,y2⟩:=r'.ml ha' ee;rw[show f.length - (f.length - (i+1)+1)=i by omega] at ec;split at ec
      ·rename_i d' ed;obtain⟨x,hx,rx⟩:=y2.get' ed;have hsq:SqL K Z a U:=.inl (.inl y1)
       refine .inr ⟨⟨U,x,hsq,hx⟩,?_,λT σ2 H2=>∃ρ2 O3 F2 E B,Gr H1 F1 J H2 F2 E/\RlO K mg O3 H2 F2 E/\SlO K (cMd own.length cap md) (Pt.all H1) ρ2 σ2 H2 F2 E/\Rps K F2 E T B/\B.length<=i+1 /\
        jJ n f.length g t e (f.length - (i+1)) ρ2 O3 B=.ok yf OZ,λys2 σ2 H2 h2=>⟨f.length - (i+1),by omega,rfl,hlt,h2⟩,λx' H3 y=>?_⟩
       ·rw[hy.length]
        have:=f9 hz
        omega
       obtain⟨rfl,hyy⟩:=y;have hxx:=hyy U hsq;rw[hx] at hxx;cases hxx;split at ec
       ·cases ec
       ·rename_i h eg;refine⟨_,C,R,u,b,d',h,r',s',rx,eg,λσ4 W=>?_⟩;split at ec
        ·rename_i Y et;refine⟨_,h,R,u,b,true,Y,r',W,et,λH5 F5 I G r5=>?_⟩;dsimp only;rw[if_pos rfl];split at ec
         ·rename_i yd O6 em;refine⟨_,h,Y,F5,I,yd,O6,r5,W.step G,em,λvy H7 F7 as7 g7 r7 hvy=>?_⟩;exact⟨h,O6,F7,as7,c++[yd],(g'.trans G).trans g7,r7,(W.step G).step g7,((hy.gr G).gr g7).snoc hvy,by rw[zn];show c.length+1<=i+1;omega,ec⟩
         ·cases ec
        ·rename_i Y et;refine⟨_,h,R,u,b,false,Y,r',W,et,λH5 F5 I G r5=>?_⟩;dsimp only;rw[if_neg zh];exact⟨h,Y,F5,I,c,g'.trans G,r5,W.step G,hy.gr G,by omega,ec⟩
        ·cases ec
      ·cases ec
     ·cases ec
    ·have hi':i=f.length:=by omega
     subst hi';rw[Nat.sub_self] at ec;unfold jJ at ec;split at ec
     ·rename_i es ee;split at ec
      ·rename_i hle;cases ec;obtain⟨U,y1,y2⟩:=r'.ml ha' ee;refine .inl ⟨⟨U,.inl (.inl y1),by rw[y2.length,hle];exact zb _⟩,?_,λp L=>?_⟩
       ·rw[hy.length];exact zM hl (f9 hz)
       ·have hF:u p=none:=by
         cases q:u p with
         |none=>rfl
         |some o=>rw[r'.fh p o q] at L;cases L
        exact k _ _ u b ((g1.trans g').trans (Gr.lay L)) (r'.lay L) (.inr ⟨p,T,yf,rfl,rfl,bN,hF,λz=>r'.all z L,(g1.trans g').dm p L,hy⟩)
      ·cases ec
     ·cases ec
   ·cases l
  ·cases l
 ·cases l
variable {tg iter elt:Expr}{ifs:List Expr}{scope:Scope}{pos:Pos}{mi:M D}{g:MG}{t:M Bool}{e:M D}
theorem ZF(a:Scope)(b own:List Str)(cap:List Nat)(n:X.calm=true)(hi:VE X md P iter mi)
  (l:∀C s H ex P,VG (cC X scope C (bF b own cap) s H ex) (cMd own.length cap md) P tg g) (h:∀C s H ex P,VIf (cC X scope C (bF b own cap) s H ex) (cMd own.length cap md) P ifs t)
  (m:∀C s H ex P,VE (cC X scope C (bF b own cap) s H ex) (cMd own.length cap md) P elt e)
  (c:∀j∈cap,j<md.length:=by decide) (d:X.env.scope=a:=by rfl) (f:X.N=b:=by rfl) (ok:nF a b scope own cap=true:=by decide +kernel) (i:∀x,foldedSetIterable iter X.env x=pure x:=by intro _;rfl):
  OE X md P (.ListComp elt [⟨tg,iter,ifs,0⟩] scope pos) (oh mi own.length cap g t e):=
 (JL a b own cap n (vf hi) (λC s H ex=>xmg (l C s H ex)) (λC s H ex=>xmt (h C s H ex)) (λC s H ex=>xm (m C s H ex)) d f ok i).imp λ_ _ _ q=>ZD c q
end
end L2
namespace L2
open PySem PySem.Spec PyProof.Rows PySem.W
section
variable {X:Cx}{md:List Md}{P:Pt}{R:RR}
end
section
variable {X:Cx}{md:List Md}{P:Pt}{R:RR}
end
section
variable {Pr:Program}{w:World}{K:Frag}{mg:Str->Option Value}{base:Heap}
end
section
variable {X:Cx}{pins:List (Addr×Obj)}{σ:St}{H:Hp}{s:Shared}{ea:Addr}{oe:Obj}
end
end L2
namespace L2
open PySem PySem.Spec PyProof.Rows PySem.W PySem.Calls PySem.Builtin PySem.Builtin.ObjectAttr PySem.Builtin.Getset_descriptor
section
variable {prog:Program}{w:World}{A:Around}{E:Value->Shared->Prop}{K:Frag}{a C:Addr}{o:Obj}{h:Heap}{g:Array GenState}{d:Drawn}{t:Nat}{os:OsState}
structure QCm(K:Frag)(C:Addr):Prop where
 ga:findIn K (.ref C) "__getattribute__" = some (some (.builtin "BaseException.__getattribute__"))
 na:findIn K (.ref C) "__getattr__" = some none
 ca:findIn K (.ref C) "__class__" = some (some (.builtin "object.__class__"))
 sp:specialIn K (.builtin "object.__class__") "__get__" = some (some (.builtin "getset_descriptor.__get__"))
 tk:takesIn K (.builtin "object.__class__")=some true
 ob:mroIn K C (.type "object")=some true
 be:mroIn K C (.type "BaseException")=some true
 cl:(clsIn K C).isSome=true
end
end L2
namespace L2
open PySem PySem.Spec PyProof.Rows PySem.W
section
variable {X:Cx}{ea C:Addr}{oe:Obj}
end
section
variable {X:Cx}{md:List Md}{P:Pt}{R:RR}
end
section
variable {X:Cx}{ea C:Addr}{oe:Obj}{i:Nat}{b:Bool}{n:Str}{p p1 pos:Pos}
end
end L2
namespace L2
open PySem PySem.Spec PyProof.Rows
section
variable {X:Cx}
variable {md:List Md}{P:Pt}
end
end L2
namespace L2
open PySem PySem.Spec PyProof.Rows PySem.W
section
variable {prog:Program}{w:World}{A:Around}{E:Value->Shared->Prop}
end
section
variable {X:Cx}{md:List Md}{P:Pt}{R:RR}
end
section
variable {X:Cx}{md:List Md}{P:Pt}{R:RR}
end
section
variable {X:Cx}{pins:List (Addr×Obj)}{σ:St}{H:Hp}{s:Shared}{ea:Addr}{oe:Obj}
end
section
variable {X:Cx}{md:List Md}{P:Pt}{R:RR}
end
section
variable {X:Cx}{ea C:Addr}{oe:Obj}{i ja jb:Nat}{b:Bool}{n na nb w1 w2:Str}{p p1 pos:Pos}
end
section
variable {X:Cx}{md:List Md}{P:Pt}{R:RR}
end
section
variable {K:Frag}{h:Heap}{mg:Str->Option Value}
theorem mkD{x:Str}{st:Stmt}{f:Addr}{g:Value}{d i:Option Addr}{sl:Array (Option Value)}{kV dc pm b ct:Value}(X:K.In h)(G:h.Ns mainGlobals mg)(a:nsIn K mainGlobals x=some (some (.ref f)))(l:K.lookup f=some ⟨g,d,.func (fnOf x x (gY st) (eG st) (aR st) .none kV dc pm i b ct),sl⟩)(c:codeIn K b x=true)(k:keepIn K (.ref f)=true):Def K mg x st:=⟨_,_,mg_of X G a,Ah l c k⟩
structure ClsAt(K:Frag)(c:Str)(A:Addr):Prop where
 ns:nsIn K mainGlobals c=some (some (.ref A))
 pg:plainGet K A Str.empty=true
 hd:hasDictIn K A=true
 po:plainOver K A=true
 sa:findIn K (.ref A) "__setattr__" = some (some (.builtin "object.__setattr__"))
 mks:makesIn K A=true
 kc:keepIn K (.ref A)=true
def MethAt(K:Frag)(A:Addr)(m qual:Str)(st:Stmt):Prop:=∃f fd,findIn K (.ref A) m=some (some (.ref f))/\isFn K (.ref f)=true/\keepIn K (.ref f)=true/\Fun K m qual st f fd
theorem mkM{A:Addr}{m qual:Str}{st:Stmt}{f:Addr}{g:Value}{d j:Option Addr}{sl:Array (Option Value)}{kV dc pm b ct:Value}(a:findIn K (.ref A) m=some (some (.ref f)))(i:isFn K (.ref f)=true)(l:K.lookup f=some ⟨g,d,.func (fnOf m qual (gY st) (eG st) (aR st) .none kV dc pm j b ct),sl⟩)(c:codeIn K b qual=true)(k:keepIn K (.ref f)=true):MethAt K A m qual st:=⟨_,_,a,i,k,Ah l c k⟩
variable {A:Addr}{c:Str}
theorem ClsAt.cl(z:ClsAt K c A):Cls K A:=⟨z.pg,z.hd,z.po,z.sa⟩
theorem ClsAt.dm(z:ClsAt K c A)(X:K.In h)(G:h.Ns mainGlobals mg){m qual:Str}{st:Stmt}(q:MethAt K A m qual st):lZ K mg c m qual st:=by
 obtain⟨f,fd,a,i,k,b⟩:=q;exact⟨_,_,_,mg_of X G z.ns,z.cl,⟨a,i,k⟩,b⟩
theorem ClsAt.dc(z:ClsAt K c A)(X:K.In h)(G:h.Ns mainGlobals mg){qual:Str}{st:Stmt}(q:MethAt K A "__init__" qual st):Bl K mg c qual st:=by
 obtain⟨f,fd,a,i,k,b⟩:=q;exact⟨_,_,_,mg_of X G z.ns,⟨z.mks,a,i,z.kc⟩,b⟩
theorem ClsAt.kf(z:ClsAt K c A)(X:K.In h)(G:h.Ns mainGlobals mg){f:Str}(n:findIn K (.ref A) f=some none):KC K mg c f:=⟨_,mg_of X G z.ns,z.cl,n⟩
end
end L2
namespace L2
open PySem PySem.Spec PyProof.Rows
section
variable {X:Cx}
def p7:List D->Option D
 | [.str l]=>if l.length<=640 then(PySem.intText? (S l)).map D.int else none
 | _=>none
theorem ZG:iR X (.type "int") p7:=by
 intro pins s σ H i j Q I c h;obtain⟨O,F,q,m,d,r,a,e,k⟩:=h;unfold p7 at e;split at e
 ·rename_i l;split at e
  ·rename_i f;obtain⟨v,rfl,g⟩:=a.one
   cases hn:PySem.intText? (S l) with
   |none=>rw[hn] at e;cases e
   |some n =>
    rw[hn] at e;cases e;cases(g.rp rfl).unS;obtain⟨u,rfl,b⟩:=vals1 c;obtain⟨t,rfl⟩:=b;exact PySem.W.KIN.call_text hn (by rw[fM];exact f) ⟨.int n,H,I.tok _,⟨_,rfl⟩,cj r k rfl Rp.int⟩
  ·cases e
 ·cases e
theorem ZJ{i:Int}(h0:0<=i)(h1:i<1000000000):p7 [.str ((Nat.toDigits 10 i.toNat).map Char.toNat)]=some (.int i):=by
 have z:=Lb i h0;have r:=PySem.W.KIN.num_reads h0 (Int.lt_trans h1 (by decide));rw[z] at r
 have a:((Nat.toDigits 10 i.toNat).map Char.toNat).length<=640:=by
  have:=PySem.W.KT.len_num h0 (Int.lt_trans h1 (by decide))
  rw[z,fM] at this;exact zM this (by decide)
 show(if((Nat.toDigits 10 i.toNat).map Char.toNat).length<=640 then(PySem.intText? (S ((Nat.toDigits 10 i.toNat).map Char.toNat))).map D.int else none)=_;rw[if_pos a,r];rfl
end
def ofO(o:Option D)(O:ak):Res D:=match o with
 |some d=>.ok d O
 |none=>.no
@[simp] theorem dR{d:D}{O:ak}:ofO (some d) O=.ok d O:=rfl
@[simp] theorem aN{α β:Type}{a:α}{O:ak}{f:α->ak->Res β}:(Res.ok a O).bind f=f a O:=rfl
@[simp] theorem QAb{O:ak}:bG O .non=.non:=rfl
@[simp] theorem p8{O:ak}{b:Bool}:bG O (.bl b)=.bl b:=rfl
@[simp] theorem cV{O:ak}{b:Int}:bG O (.int b)=.int b:=rfl
@[simp] theorem Bw{O:ak}{b:List Nat}:bG O (.str b)=.str b:=rfl
@[simp] theorem cT{O:ak}{b:List D}:bG O (.lst b)=.lst b:=rfl
@[simp] theorem ZK{O:ak}{b:List D}:bG O (.tup b)=.tup b:=rfl
@[simp] theorem Qz4{O:ak}{a b:List D}:bG O (.dic a b)=.dic a b:=rfl
@[simp] theorem fL{i:Nat}{ρ:az}{O:ak}:aa i ρ O=(match ρ[i]? with | some (some d)=>.ok d O | _=>.no):=rfl
@[simp] theorem m_c{d:D}{ρ:az}{O:ak}:mC d ρ O=.ok d O:=rfl
@[simp] theorem gM{g:D->D->Option D}{a b:M D}{ρ:az}{O:ak}:ao g a b ρ O=(a ρ O).bind λx d=>(b ρ d).bind λy c=>ofO (g (bG c x) (bG c y)) c:=rfl
def gF(r:Res D):Res D:=match r with
 | .ok d O'=>if jD d=true then .ok d O' else .no
 |r=>r
@[simp] theorem m_g{m:M D}{ρ:az}{O:ak}:mG m ρ O=gF (m ρ O):=rfl
@[simp] theorem Lh{i:Int}{O:ak}:gF (.ok (.int i) O)=.ok (.int i) O:=rfl
@[simp] theorem QBG{i:List Nat}{O:ak}:gF (.ok (.str i) O)=.ok (.str i) O:=rfl
@[simp] theorem QCd{i:Bool}{O:ak}:gF (.ok (.bl i) O)=.ok (.bl i) O:=rfl
@[simp] theorem QBW{O:ak}:gF (.ok .non O)=.ok .non O:=rfl
@[simp] theorem QBJ{l:List D}{O:ak}:gF (.ok (.tup l) O)=.ok (.tup l) O:=rfl
@[simp] theorem QCb{n:Nat}{O:ak}:gF (.ok (.ob n) O)=.ok (.ob n) O:=rfl
def chF(o:Option D)(O:ak)(f:Unit->Res D):Res D:=match o with
 |some (.bl true)=>f ()
 |some (.bl false)=>.ok (.bl false) O
 | _=>.no
@[simp] theorem QB8{b:Bool}{O:ak}{f:Unit->Res D}:chF (some (.bl b)) O f=if b=true then f () else .ok (.bl false) O:=by cases b<;>rfl
@[simp] theorem QBh{g g':D->D->Option D}{a b c:M D}{ρ:az}{O:ak}:j7 g g' a b c ρ O=(a ρ O).bind λx h=>(b ρ h).bind λy d=>chF (g (bG d x) (bG d y)) d λ_=>(c ρ d).bind λz f=>ofO (g' (bG f y) (bG f z)) f:=by
 unfold j7;congr 1
@[simp] theorem ZL{m:M D}{ρ:az}{O:ak}:jF m ρ O=(m ρ O).bind λd a=>.ok (.bl (isNon d)) a:=rfl
@[simp] theorem QBN{m:M D}{ρ:az}{O:ak}:iJ m ρ O=(m ρ O).bind λd a=>.ok (.bl (!isNon d)) a:=rfl
@[simp] theorem QAc:isNon .non=true:=rfl
@[simp] theorem Qz8{l:List D}:isNon (.lst l)=false:=rfl
@[simp] theorem Qz7{l:List D}:isNon (.tup l)=false:=rfl
@[simp] theorem Qz9{l:List Nat}:isNon (.str l)=false:=rfl
@[simp] theorem Qz5{l:Int}:isNon (.int l)=false:=rfl
@[simp] theorem QAA{l:Nat}:isNon (.ob l)=false:=rfl
def teF(d:D)(O:ak):Res Bool:=match d with
 | .bl b=>.ok b O
 | _=>.no
@[simp] theorem iZ{b:Bool}{O:ak}:teF (.bl b) O=.ok b O:=rfl
@[simp] theorem iz{m:M D}{ρ:az}{O:ak}:aJ m ρ O=(m ρ O).bind teF:=rfl
def ofB(o:Option Bool)(O:ak):Res Bool:=match o with
 |some d=>.ok d O
 |none=>.no
@[simp] theorem qb{d:Bool}{O:ak}:ofB (some d) O=.ok d O:=rfl
@[simp] theorem ou{m:M D}{ρ:az}{O:ak}:cz m ρ O=(m ρ O).bind λd a=>ofB (pB (bG a d)) a:=rfl
@[simp] theorem qd{b:Bool}:pB (.bl b)=some b:=rfl
@[simp] theorem QAS{b:List D}:pB (.lst b)=some (!b.isEmpty):=rfl
@[simp] theorem mJ{a b:M Bool}{ρ:az}{O:ak}:eV a b ρ O=(a ρ O).bind λc d=>if c=true then b ρ d else .ok false d:=rfl
@[simp] theorem tZ{a b:M Bool}{ρ:az}{O:ak}:dJ a b ρ O=(a ρ O).bind λc d=>if c=true then .ok true d else b ρ d:=rfl
@[simp] theorem Bx{a:M Bool}{ρ:az}{O:ak}:dM a ρ O=(a ρ O).bind λc b=>.ok (!c) b:=rfl
def anF(d:D)(O:ak)(f:Unit->Res D):Res D:=match d with
 | .bl true=>f ()
 | .bl false=>.ok (.bl false) O
 | _=>.no
def orF(d:D)(O:ak)(f:Unit->Res D):Res D:=match d with
 | .bl true=>.ok (.bl true) O
 | .bl false=>f ()
 | _=>.no
@[simp] theorem ZM{b:Bool}{O:ak}{f:Unit->Res D}:anF (.bl b) O f=if b=true then f () else .ok (.bl false) O:=by cases b<;>rfl
@[simp] theorem QBZ{b:Bool}{O:ak}{f:Unit->Res D}:orF (.bl b) O f=if b=true then .ok (.bl true) O else f ():=by cases b<;>rfl
@[simp] theorem By{a b:M D}{ρ:az}{O:ak}:ik a b ρ O=(a ρ O).bind λd c=>anF d c λ_=>b ρ c:=by
 unfold ik;congr 1
@[simp] theorem Li{a b:M D}{ρ:az}{O:ak}:nJ a b ρ O=(a ρ O).bind λd c=>orF d c λ_=>b ρ c:=by
 unfold nJ;congr 1
def noF(d:D)(O:ak):Res D:=match d with
 | .bl b=>.ok (.bl (!b)) O
 | _=>.no
@[simp] theorem QBY{b:Bool}{O:ak}:noF (.bl b) O=.ok (.bl (!b)) O:=rfl
@[simp] theorem QBB{a:M D}{ρ:az}{O:ak}:Av a ρ O=(a ρ O).bind noF:=rfl
@[simp] theorem BJ{t:M Bool}{a b:M D}{ρ:az}{O:ak}:mIf t a b ρ O=(t ρ O).bind λc d=>if c=true then a ρ d else b ρ d:=rfl
@[simp] theorem gj{ρ:az}{O:ak}:aq ρ O=.ok [] O:=rfl
@[simp] theorem gk{m:M D}{r:M (List D)}{ρ:az}{O:ak}:aj m r ρ O=(m ρ O).bind λd b=>(r ρ b).bind λds a=>.ok (d::ds) a:=rfl
@[simp] theorem BK{r:M (List D)}{ρ:az}{O:ak}:bI r ρ O=(r ρ O).bind λds a=>if ds.length<=1000000 then .ok (.lst ds) a else .no:=rfl
@[simp] theorem BL{r:M (List D)}{ρ:az}{O:ak}:cG r ρ O=(r ρ O).bind λds a=>if ds.length<=1000000 then .ok (.tup ds) a else .no:=rfl
@[simp] theorem jK{c:List D->ak->Res D}{a:M (List D)}{ρ:az}{O:ak}:aH c a ρ O=(a ρ O).bind λds b=>c ds b:=rfl
@[simp] theorem mK{g:List D->Option D}{a:M (List D)}{ρ:az}{O:ak}:aY g a ρ O=(a ρ O).bind λds b=>ofO (g (ds.map (bG b))) b:=rfl
@[simp] theorem QCk{g:D->Option D}{a:M D}{ρ:az}{O:ak}:mUn g a ρ O=(a ρ O).bind λd b=>ofO (g (bG b d)) b:=rfl
def isF(n:String)(o:Option String)(O:ak):Res D:=match o with
 |some t=>.ok (.bl (dO t n)) O
 |none=>.no
@[simp] theorem Lj{n t:String}{O:ak}:isF n (some t) O=.ok (.bl (dO t n)) O:=rfl
@[simp] theorem Lp{n:String}{m:M D}{ρ:az}{O:ak}:eZ n m ρ O=(m ρ O).bind λd a=>isF n (tyD (bG a d)) a:=rfl
@[simp] theorem QBa:tyD .non=some "NoneType":=rfl
@[simp] theorem QBR{b:Bool}:tyD (.bl b)=some "bool":=rfl
@[simp] theorem QBj{b:Int}:tyD (.int b)=some "int":=rfl
@[simp] theorem ZP{b:List Nat}:tyD (.str b)=some "str":=rfl
@[simp] theorem QBe{b:List D}:tyD (.lst b)=some "list":=rfl
@[simp] theorem QBg{b:List D}:tyD (.tup b)=some "tuple":=rfl
@[simp] theorem QBn{a b:List D}:tyD (.dic a b)=some "dict":=rfl
@[simp] theorem vW{ρ:az}{O:ak}:moN ρ O=.ok none O:=rfl
def osF(d:D)(O:ak):Res (Option Int):=match d with
 | .int i=>.ok (some i) O
 | _=>.no
@[simp] theorem oA{i:Int}{O:ak}:osF (.int i) O=.ok (some i) O:=rfl
@[simp] theorem oF{m:M D}{ρ:az}{O:ak}:moS m ρ O=(m ρ O).bind osF:=rfl
@[simp] theorem qe{m:M D}{lo hi:M (Option Int)}{ρ:az}{O:ak}:mSl m lo hi ρ O=(m ρ O).bind λd c=>(lo ρ c).bind λl b=>(hi ρ b).bind λh a=>ofO (gSl (bG a d) l h) a:=rfl
@[simp] theorem QBp{l:List Nat}{lo hi:Option Int}:gSl (.str l) lo hi=if l.length<=16777216 then some (.str (du l lo hi)) else none:=rfl
@[simp] theorem qg{l:List D}{lo hi:Option Int}:gSl (.lst l) lo hi=some (.lst (du l lo hi)):=rfl
@[simp] theorem QA8{l:List D}{lo hi:Option Int}:gSl (.tup l) lo hi=some (.tup (du l lo hi)):=rfl
def kO(f:Fl)(b:MS):Fl:=match f with
 | .nx ρ' O'=>b ρ' O'
 |r=>r
@[simp] theorem cu{a b:MS}{ρ:az}{O:ak}:aD a b ρ O=kO (a ρ O) b:=rfl
@[simp] theorem cW{ρ:az}{O:ak}{b:MS}:kO (.nx ρ O) b=b ρ O:=rfl
@[simp] theorem ZQ{d:D}{O:ak}{b:MS}:kO (.rt d O) b=.rt d O:=rfl
@[simp] theorem QA9{ρ:az}{O:ak}{b:MS}:kO (.bk ρ O) b=.bk ρ O:=rfl
@[simp] theorem QBl{ρ:az}{O:ak}{b:MS}:kO (.ct ρ O) b=.ct ρ O:=rfl
@[simp] theorem QBo{b:MS}:kO .no b=.no:=rfl
@[simp] theorem jt{ρ:az}{O:ak}:bj ρ O=.nx ρ O:=rfl
def oG(r:Res D):Fl:=match r with
 | .ok d O'=>.rt d O'
 | .ex x O'=>.ex x O'
 | .no=>.no
@[simp] theorem ju{m:M D}{ρ:az}{O:ak}:aV m ρ O=oG (m ρ O):=rfl
@[simp] theorem vX{d:D}{O:ak}:oG (.ok d O)=.rt d O:=rfl
def Lq(r:Res D)(ρ:az):Fl:=match r with
 | .ok _ O'=>.nx ρ O'
 | .ex x O'=>.ex x O'
 | .no=>.no
@[simp] theorem ZR{m:M D}{ρ:az}{O:ak}:sU m ρ O=Lq (m ρ O) ρ:=rfl
@[simp] theorem ZV{d:D}{O:ak}{ρ:az}:Lq (.ok d O) ρ=.nx ρ O:=rfl
def ifF(r:Res Bool)(a b:MS)(ρ:az):Fl:=match r with
 | .ok c O'=>if c=true then a ρ O' else b ρ O'
 | .ex x O'=>.ex x O'
 | .no=>.no
@[simp] theorem jL{t:M Bool}{a b:MS}{ρ:az}{O:ak}:bc t a b ρ O=ifF (t ρ O) a b ρ:=rfl
@[simp] theorem jM{c:Bool}{O:ak}{a b:MS}{ρ:az}:ifF (.ok c O) a b ρ=if c=true then a ρ O else b ρ O:=rfl
def uc(i:Nat)(r:Res D)(ρ:az):Fl:=match r with
 | .ok d O'=>.nx (ρ.set i (some d)) O'
 | .ex x O'=>.ex x O'
 | .no=>.no
@[simp] theorem jN{i:Nat}{m:M D}{ρ:az}{O:ak}:aF i m ρ O=uc i (m ρ O) ρ:=rfl
@[simp] theorem jO{i:Nat}{d:D}{O:ak}{ρ:az}:uc i (.ok d O) ρ=.nx (ρ.set i (some d)) O:=rfl
def Lr(r:Res (List D))(g:MG)(b:MS)(ρ:az):Fl:=match r with
 | .ok ds O'=>bK g b ds ρ O'
 | .ex x O'=>.ex x O'
 | .no=>.no
@[simp] theorem gO{m:M (List D)}{g:MG}{b:MS}{ρ:az}{O:ak}:cA m g b ρ O=Lr (m ρ O) g b ρ:=rfl
@[simp] theorem gP{ds:List D}{O:ak}{g:MG}{b:MS}{ρ:az}:Lr (.ok ds O) g b ρ=bK g b ds ρ O:=rfl
@[simp] theorem mg_n{i:Nat}{d:D}{ρ:az}:mgN i d ρ=some (ρ.set i (some d)):=rfl
def bu(f:Fl):Res D:=match f with
 | .rt d O'=>.ok d O'
 | .nx _ O'=>.ok .non O'
 | .ex x O'=>.ex x O'
 | _=>.no
@[simp] theorem fQ{n:Nat}{b:MS}{ds:List D}{O:ak}:bC n b ds O=bu (b (ds.map some++List.replicate (n - ds.length) none) O):=rfl
@[simp] theorem vY{d:D}{O:ak}:bu (.rt d O)=.ok d O:=rfl
@[simp] theorem QBk{ρ:az}{O:ak}:bu (.nx ρ O)=.ok .non O:=rfl
@[simp] theorem ZW{m:M (List D)}{ρ:az}{O:ak}:gG m ρ O=(m ρ O).bind λds a=>match ds with
 | [.int j]=>if j<=1000000000/\-1000000000<=j then .ok (cH 0 j.toNat) a else .no
 | _=>.no:=rfl
def itF(o:Option (List D))(O:ak):Res (List D):=match o with
 |some a=>.ok a O
 |none=>.no
@[simp] theorem Lw{ds:List D}{O:ak}:itF (some ds) O=.ok ds O:=rfl
@[simp] theorem BP{m:M D}{ρ:az}{O:ak}:bY m ρ O=(m ρ O).bind λd a=>itF (pQ d) a:=rfl
@[simp] theorem Lx{ds:List D}:pQ (.lst ds)=some ds:=rfl
@[simp] theorem Qz6{ds:List D}:pQ (.tup ds)=some ds:=rfl
@[simp] theorem BR{m:M (List D)}{own:Nat}{cap:List Nat}{g:MG}{t:M Bool}{e:M D}{ρ:az}{O:ak}:c7 m own cap g t e ρ O=(m ρ O).bind λds b=>if ds.length<=1000000 then(cZ g t e ds (iu own cap ρ) b []).bind λys a=>.ok (.lst ys) a else .no:=rfl
@[simp] theorem mL{i j:Int}:aZ (.int i) (.int j)=some (.int (i+j)):=rfl
@[simp] theorem QBT{a b:List Nat}:aZ (.str a) (.str b)=if a.length+b.length<=1000000 then some (.str (a++b)) else none:=rfl
@[simp] theorem Ly{a b:List D}:aZ (.lst a) (.lst b)=if a.length+b.length<=1000000 then some (.lst (a++b)) else none:=rfl
@[simp] theorem QAQ{i j:Int}:dB (.int i) (.int j)=some (.int (i - j)):=rfl
@[simp] theorem mO{i j:Int}:bH (.int i) (.int j)=if 0<j then some (.int (i % j)) else none:=by
 unfold bH gI
 by_cases h:0<j<;>simp[h]
@[simp] theorem ZX{i j:Int}:dG (.int i) (.int j)=if 0<j/\j<1073741824 then some (.int (i / j)) else none:=by
 unfold dG gI
 by_cases h:0<j/\j<1073741824<;>simp[h]
theorem vZ{i j:Int}(h:(-(2 ^ 64)<i/\i<2 ^ 64)\/(-(2 ^ 64)<j/\j<2 ^ 64)):fJ (.int i) (.int j)=some (.int (i * j)):=by
 unfold fJ;dsimp only;rw[if_pos];rw[Bool.or_eq_true];unfold lV;rw[zu,zu,decide_eq_true_eq,decide_eq_true_eq,decide_eq_true_eq,decide_eq_true_eq];exact h
@[simp] theorem BV{i j:Int}:gLt (.int i) (.int j)=some (.bl (decide (i<j))):=rfl
@[simp] theorem v9{i j:Int}:gGt (.int i) (.int j)=some (.bl (decide (j<i))):=rfl
@[simp] theorem QB5{i j:Int}:gGe (.int i) (.int j)=some (.bl (decide (j<=i))):=rfl
@[simp] theorem BW{i j:Int}:gLe (.int i) (.int j)=some (.bl (decide (i<=j))):=rfl
theorem Lz(a b:Nat):(([a]:List Nat) < [b])↔a<b:=by
 constructor
 ·intro h
  rcases List.cons_lt_cons_iff.mp h with h | ⟨_,h⟩
  ·exact h
  ·exact absurd h (List.not_lt_nil _)
 ·intro h;exact List.cons_lt_cons_iff.mpr (.inl h)
@[simp] theorem QB0{a b:Nat}:gLe (.str [a]) (.str [b])=some (.bl (decide (a<=b))):=by
 show some (D.bl (!decide (([b]:List Nat) < [a])))=_
 have:decide (([b]:List Nat) < [a])=decide (b<a):=by
  by_cases h:b<a
  ·rw[zj h,zj ((Lz _ _).mpr h)]
  ·rw[zf h,zf (λz=>h ((Lz _ _).mp z))]
 rw[this]
 by_cases h:b<a
 ·rw[zj h,zf (by omega)];rfl
 ·rw[zf h,zj (by omega)];rfl
@[simp] theorem QCf{i j:Int}:gEq (.int i) (.int j)=some (.bl (decide (i=j))):=rfl
@[simp] theorem QCc{i j:List Nat}:gEq (.str i) (.str j)=some (.bl (decide (i=j))):=rfl
@[simp] theorem QB3{i j:Bool}:gEq (.bl i) (.bl j)=some (.bl (decide (i=j))):=rfl
@[simp] theorem ud{i j:List D}:gEq (.lst i) (.lst j)=if(okE (.lst i)&&okE (.lst j))=true then some (.bl (iQ (.lst i) (.lst j))) else none:=rfl
@[simp] theorem QB2{i j:Int}:gNe (.int i) (.int j)=some (.bl (!decide (i=j))):=rfl
@[simp] theorem QCe{i j:List Nat}:gNe (.str i) (.str j)=some (.bl (!decide (i=j))):=rfl
@[simp] theorem QB9{i j:Bool}:gNe (.bl i) (.bl j)=some (.bl (!decide (i=j))):=rfl
@[simp] theorem BX{i j:List D}:gNe (.lst i) (.lst j)=if(okE (.lst i)&&okE (.lst j))=true then some (.bl (!iQ (.lst i) (.lst j))) else none:=rfl
@[simp] theorem QB7{n:Bool}{c:Nat}{l:List Nat}:gIn n (.str [c]) (.str l)=some (.bl (n ^^ decide (c∈l))):=rfl
theorem wg{ds:List D}{i:Int}:gIx (.lst ds) (.int i)=atI ds i:=rfl
theorem ZZ{l:List Nat}{i:Int}:gIx (.str l) (.int i)=if l.length<=1000000 then(atI l i).map (λc=>.str [c]) else none:=rfl
@[simp] theorem QBH{l:List Nat}:bT [.str l]=if l.length<=1000000 then some (.int l.length) else none:=rfl
@[simp] theorem wj{l:List D}:bT [.lst l]=some (.int l.length):=rfl
@[simp] theorem QBw{l:List D}:bT [.tup l]=some (.int l.length):=rfl
@[simp] theorem Z0{i j:Int}:pI [.int i,.int j]=some (.int (if j>i then j else i)):=rfl
@[simp] theorem QBS{i j:Int}:XR [.int i,.int j]=some (.int (if j<i then j else i)):=rfl
@[simp] theorem QBU{i:Int}:pJ [.int i]=some (.int i):=rfl
@[simp] theorem QBI{b:Bool}:pJ [.bl b]=some (.int (if b then 1 else 0)):=rfl
@[simp] theorem QBV:eX (.int 10) (.int 18)=some (.int 1000000000000000000):=by rfl
@[simp] theorem QBL:eX (.int 10) (.int 9)=some (.int 1000000000):=by rfl
@[simp] theorem BZ{α:Type}{xs:List α}{j:Nat}:atI xs (j:Int)=xs[j]?:=by
 unfold atI ixN;rw[if_pos (by omega)]
 by_cases h:j<xs.length
 ·rw[if_pos (by omega)];simp
 ·rw[if_neg (by omega),List.getElem?_eq_none (by omega)];rfl
theorem Ca{α:Type}{xs:List α}{i:Int}(h0:0<=i)(h1:i<xs.length):∃x,atI xs i=some x/\x∈xs:=by
 obtain⟨j,rfl⟩:=Int.eq_ofNat_of_zero_le h0
 have a:j<xs.length:=by omega
 exact⟨xs[j],by show atI xs (j:Int)=_;rw[BZ,zv a],jq a⟩
section
variable {c:Prop}[Decidable c]
@[simp] theorem QA4{a b:Fl}:bu (if c then a else b)=if c then bu a else bu b:=by split<;>rfl
@[simp] theorem QAK{a b:Res D}:oG (if c then a else b)=if c then oG a else oG b:=by split<;>rfl
@[simp] theorem QAI{a b:Fl}{r:MS}:kO (if c then a else b) r=if c then kO a r else kO b r:=by split<;>rfl
@[simp] theorem QAY{α β:Type}{a b:Res α}{f:α->ak->Res β}:(if c then a else b).bind f=if c then a.bind f else b.bind f:=by split<;>rfl
@[simp] theorem QBt{a b:Res Bool}{x y:MS}{ρ:az}:ifF (if c then a else b) x y ρ=if c then ifF a x y ρ else ifF b x y ρ:=by split<;>rfl
@[simp] theorem QAo{a b:Res D}{i:Nat}{ρ:az}:uc i (if c then a else b) ρ=if c then uc i a ρ else uc i b ρ:=by split<;>rfl
@[simp] theorem QBq{a b:Option D}{O:ak}:ofO (if c then a else b) O=if c then ofO a O else ofO b O:=by split<;>rfl
end
@[simp] theorem Z1:dO "str" "str" = true:=by decide
@[simp] theorem QBF:dO "int" "str" = false:=by decide
@[simp] theorem QBD:dO "bool" "str" = false:=by decide
@[simp] theorem QBv:dO "list" "str" = false:=by decide
@[simp] theorem QBy:dO "tuple" "str" = false:=by decide
@[simp] theorem QBQ:dO "dict" "str" = false:=by decide
@[simp] theorem QBu:dO "NoneType" "str" = false:=by decide
@[simp] theorem QBX:dO "int" "int" = true:=by decide
@[simp] theorem QBx:dO "int" "bool" = false:=by decide
@[simp] theorem QBs:dO "bool" "bool" = true:=by decide
@[simp] theorem QBb:dO "list" "list" = true:=by decide
@[simp] theorem QBf:dO "tuple" "tuple" = true:=by decide
@[simp] theorem QBr:dO "NoneType" "list" = false:=by decide
theorem qi{g:MG}{b:MS}(j:Nat->az->ak->Prop):∀(ds:List D) (k:Nat) (ρ:az) (O:ak),j k ρ O ->
  (∀i d ρ O,ds[i]?=some d->j (k+i) ρ O->∃c,g d ρ=some c/\∃a l,(b c O=.nx a l\/b c O=.ct a l)/\j (k+i+1) a l)->∃ρ' f,bK g b ds ρ O=.nx ρ' f/\j (k+ds.length) ρ' f
 | [],k,ρ,O,h,_=>⟨ρ,O,rfl,h⟩
 |d::ds,k,ρ,O,h,hs=>by
  obtain⟨c,r,a,l,m,h2⟩:=hs 0 d ρ O rfl h
  obtain⟨ρ',f,q,h3⟩:=qi j ds (k+1) a l h2 λi u ρ' f hi n=>by
   have:=hs (i+1) u ρ' f (by simpa using hi) (by rw[show k+(i+1)=k+1+i by omega];exact n)
   rw[show k+(i+1)+1=k+1+i+1 by omega] at this;exact this
  refine⟨ρ',f,?_,by rw[zw,show k+(ds.length+1)=k+1+ds.length by omega];exact h3⟩;unfold bK;rw[r];dsimp only
  rcases m with m | m<;>rw[m]<;>exact q
theorem LC{g:MG}{t:M Bool}{m:M D}(b:az->Prop)(p:D->Bool):∀(ds:List D) (ρ:az) (O:ak) (acc:List D),b ρ->(∀d∈ds,∀ρ,b ρ->∃a,g d ρ=some a/\b a/\t a O=.ok (p d) O/\m a O=.ok d O)->cZ g t m ds ρ O acc=.ok (acc++ds.filter p) O
 | [],ρ,O,acc,_,_=>by simp[cZ]
 |d::ds,ρ,O,acc,h,hs=>by
  obtain⟨a,l,h1,j,i⟩:=hs d zp ρ h
  have f:=λacc=>LC b p ds a O acc h1 λn c=>hs n (zt _ c)
  unfold cZ;rw[l];dsimp only;rw[j]
  cases q:p d with
  |true =>
   dsimp only;rw[i];dsimp only;rw[f,List.filter_cons,q];simp
  |false =>
   dsimp only;rw[f,List.filter_cons,q];simp
@[simp] theorem QBA{ρ:az}{O:ak}:Yt ρ O=.ok [] O:=rfl
@[simp] theorem QBd{a b:M D}{r:M (List (D×D))}{ρ:az}{O:ak}:Yu a b r ρ O=(a ρ O).bind λx f=>(b ρ f).bind λy d=>(r ρ d).bind λps c=>.ok ((x,y)::ps) c:=rfl
def diF(o:Option (List Key))(a:List (D×D))(O:ak):Res D:=match o with
 |some b=>if b.Nodup/\a.length<=15 then .ok (.dic (a.map (·.1)) (a.map (·.2))) O else .no
 |none=>.no
@[simp] theorem QA0{b:List Key}{a:List (D×D)}{O:ak}:diF (some b) a O=if b.Nodup/\a.length<=15 then .ok (.dic (a.map (·.1)) (a.map (·.2))) O else .no:=rfl
@[simp] theorem QBP{m:M (List (D×D))}{ρ:az}{O:ak}:Yv m ρ O=(m ρ O).bind λa b=>diF (keysOf a) a b:=rfl
@[simp] theorem QBc{i:Int}:keyOf (.int i)=some (.inl i):=rfl
@[simp] theorem QBi{i:List Nat}:keyOf (.str i)=some (.inr (S i)):=rfl
@[simp] theorem Qzm:keysOf []=some []:=rfl
@[simp] theorem QyW{a b:D}{r:List (D×D)}:keysOf ((a,b)::r)=(keyOf a).bind λk=>(keysOf r).map (k :: ·):=rfl
def joF(o:Option (List (List Nat)))(O:ak):Res D:=match o with
 |some ls=>if(ls.map List.length).sum<=1000000 then .ok (.str ls.flatten) O else .no
 |none=>.no
@[simp] theorem QA5{ls:List (List Nat)}{O:ak}:joF (some ls) O=if(ls.map List.length).sum<=1000000 then .ok (.str ls.flatten) O else .no:=rfl
def jdF(d:D)(O:ak):Res D:=match d with
 | .lst ds=>joF (vL ds) O
 | _=>.no
@[simp] theorem QB6{ds:List D}{O:ak}:jdF (.lst ds) O=joF (vL ds) O:=rfl
@[simp] theorem QBK{m:M D}{ρ:az}{O:ak}:Yb m ρ O=(m ρ O).bind λd a=>jdF (bG a d) a:=rfl
@[simp] theorem Z2{own:Nat}{cap:List Nat}{ρ:az}:iu own cap ρ=List.replicate own none++cap.map λj=>(ρ[j]?).join:=rfl
@[simp] theorem QAa{g:MG}{t:M Bool}{m:M D}{ρ:az}{O:ak}{acc:List D}:cZ g t m [] ρ O acc=.ok acc O:=rfl
theorem mQ:∀ds:List D,fK ds=ds.map toP
 | []=>rfl
 |d::ds=>by rw[fK,mQ ds];rfl
theorem ue:∀{ds:List D},(∀d∈ds,dg d=true)->kh ds=true
 | [],_=>rfl
 |d::ds,h=>by rw[kh,h d zp,ue λx a=>h x (zt _ a)];rfl
theorem wk{n:Nat}(b:n<60){ds:List D}(h:∀d∈ds,dg d=true/\(toP d).canLay0=true/\(toP d).depth<=n):okE (.lst ds)=true:=by
 unfold okE;rw[zu];refine⟨?_,?_⟩
 ·rw[dg];exact ue λd hd=>(h d hd).1
 ·rw[toP,mQ]
  refine W7 b λd hd=>?_
  obtain⟨x,a,rfl⟩:=zx.mp hd;exact(h x a).2
theorem wu{l:List Nat}(h:∀c∈l,c<1114112):(PyData.str (S l)).canLay0=true:=by
 show PyData.strOk (S l)=true;unfold PyData.strOk S;simp;exact h
theorem uf{d:D}(h:okE d=true):iQ d d=true:=by
 unfold okE at h;rw[zu] at h
 have:=h.2
 unfold okD at this;rw[zu] at this;exact SeqAt.eqv_refl _ this.1
def it(f:Int->Int):Nat->Int->Int
 | 0,x=>x
 |n+1,x=>f (it f n x)
def mix(n k:Int):Int:=if n>1000000000000000000 then it (λr=>r / 1000000000) k.toNat n % 1000000000
 else
  let m:=it (λm=>(m * 48271+104729) % 2147483629) (k+2).toNat (n % 2147483647+7919)
  m * m % 998244353 / 11
theorem LK(j:Nat)(x:Int)(h0:0<=x)(h1:x<2147491566):0<=it (λm=>(m * 48271+104729) % 2147483629) j x/\it (λm=>(m * 48271+104729) % 2147483629) j x<2147491566:=by
 induction j with
 |zero=>exact⟨h0,h1⟩
 |succ j ih =>
  refine⟨jj _ (by decide),?_⟩
  have:=jk (it (λm=>(m * 48271+104729) % 2147483629) j x * 48271+104729) (show(0:Int)<2147483629 by decide)
  show(it (λm=>(m * 48271+104729) % 2147483629) j x * 48271+104729) % 2147483629<_;omega
def Cd:MS:=(aD (bc (aJ (ao gGt (aa 0) (ao eX (mC (.int 10)) (mC (.int 18))))) (aD (aF 2 (mG (aa 0)))
  (aD (cA (gG (aj (aa 1) aq)) (mgN 3) (aF 2 (ao dG (aa 2) (ao eX (mC (.int 10)) (mC (.int 9))))))
  (aV (ao bH (aa 2) (ao eX (mC (.int 10)) (mC (.int 9))))))) bj)
  (aD (aF 4 (ao aZ (ao bH (aa 0) (mC (.int 2147483647))) (mC (.int 7919))))
  (aD (cA (gG (aj (ao aZ (aa 1) (mC (.int 2))) aq)) (mgN 3) (aF 4 (ao bH (ao aZ (ao fJ (aa 4) (mC (.int 48271))) (mC (.int 104729))) (mC (.int 2147483629)))))
  (aV (ao dG (ao bH (ao fJ (aa 4) (aa 4)) (mC (.int 998244353))) (mC (.int 11)))))))
theorem qj(lo:Int)(n:Nat):(cH lo n).length=n:=by simp[cH]
theorem Z3(n k:Int)(h0:0<=k)(h1:k<=1000000)(O:ak):bC 5 Cd [.int n,.int k] O=.ok (.int (mix n k)) O:=by
 unfold mix
 by_cases u:n>1000000000000000000
 ·obtain⟨q,c,e,rfl,a,rfl⟩:=qi (g:=mgN 3) (b:=aF 2 (ao dG (aa 2) (ao eX (mC (.int 10)) (mC (.int 9)))))
   (λi ρ c=>c=O/\∃a,ρ=[some (.int n),some (.int k),some (.int (it (λr=>r / 1000000000) i n)),a,none]) (cH 0 k.toNat) 0 [some (.int n),some (.int k),some (.int n),none,none] O ⟨rfl,none,rfl⟩ (by
    rintro i d ρ c hi ⟨rfl,a,rfl⟩;refine⟨_,rfl,?_⟩;simp;rw[show it (λr=>r / 1000000000) (i+1) n=it (λr=>r / 1000000000) i n / 1000000000 from rfl]
    exact⟨_,_,⟨rfl,rfl⟩,rfl,_,rfl⟩)
  rw[qj,zY] at e
  have l:k<=1000000000/\-1000000000<=k:=by omega
  simp[Cd,u,l,e]
 ·have h:0<=n % 2147483647+7919:=by have:=jj n (show(2147483647:Int)≠0 by decide);omega
  have f:n % 2147483647+7919<2147491566:=by have:=jk n (show(0:Int)<2147483647 by decide);omega
  obtain⟨q,c,e,rfl,a,rfl⟩:=qi (g:=mgN 3) (b:=aF 4 (ao bH (ao aZ (ao fJ (aa 4) (mC (.int 48271))) (mC (.int 104729))) (mC (.int 2147483629))))
   (λi ρ c=>c=O/\∃a,ρ=[some (.int n),some (.int k),none,a,some (.int (it (λm=>(m * 48271+104729) % 2147483629) i (n % 2147483647+7919)))]) (cH 0 (k+2).toNat) 0 [some (.int n),some (.int k),none,none,some (.int (n % 2147483647+7919))] O ⟨rfl,none,rfl⟩ (by
    rintro i d ρ c hi ⟨rfl,a,rfl⟩;refine⟨_,rfl,?_⟩;obtain⟨z,y⟩:=LK i _ h f
    have:=vZ (i:=it (λm=>(m * 48271+104729) % 2147483629) i (n % 2147483647+7919)) (j:=48271) (.inr ⟨by decide,by decide⟩)
    simp[this]
    rw[show it (λm=>(m * 48271+104729) % 2147483629) (i+1) (n % 2147483647+7919)=(it (λm=>(m * 48271+104729) % 2147483629) i (n % 2147483647+7919) * 48271+104729) % 2147483629 from rfl]
    exact⟨_,_,⟨rfl,rfl⟩,rfl,_,rfl⟩)
  rw[qj,zY] at e
  have l:k+2<=1000000000/\-1000000000<=k+2:=by omega
  obtain⟨z,y⟩:=LK (k+2).toNat _ h f;have x:=vZ (i:=it (λm=>(m * 48271+104729) % 2147483629) (k+2).toNat (n % 2147483647+7919)) (j:=it (λm=>(m * 48271+104729) % 2147483629) (k+2).toNat (n % 2147483647+7919)) (.inl ⟨by omega,by omega⟩);simp[Cd,u,l,e,x]
def LQ(a:List Str)(f:Str)(d:D)(O:ak):Res D:=match d with
 | .ob n=>match O[n]? with
  |some (.ins c fs)=>if c∈a then match fs.lookup f with
   |some y=>.ok y O
   |none=>.no else .no
  | _=>.no
 | _=>.no
@[simp] theorem Z4{a:List Str}{f:Str}{m:M D}{ρ:az}{O:ak}:fP a f m ρ O=(m ρ O).bind (LQ a f):=rfl
def puF(a:List Str)(f:Str)(d:D)(ρ:az)(r:Res D):Fl:=match r with
 | .ok (.ob n) O2=>match O2[n]? with
  |some (.ins c fs)=>if c∈a/\fs.length<900 then .nx ρ (O2.set n (.ins c (putD f d fs))) else .no
  | _=>.no
 | _=>.no
def sfF(a:List Str)(f:Str)(mo:M D)(r:Res D)(ρ:az):Fl:=match r with
 | .ok d O1=>puF a f d ρ (mo ρ O1)
 | .ex x O'=>.ex x O'
 | .no=>.no
@[simp] theorem Z5{b:List Str}{f:Str}{mo a:M D}{ρ:az}{O:ak}:kI b f mo a ρ O=sfF b f mo (a ρ O) ρ:=by
 unfold kI sfF puF
 cases a ρ O<;>rfl
@[simp] theorem Z6{a:List Str}{f:Str}{mo:M D}{d:D}{O:ak}{ρ:az}:sfF a f mo (.ok d O) ρ=puF a f d ρ (mo ρ O):=rfl
def meF(c m:Str)(g:List D->ak->Res D)(b:ak->Res (List D))(d:D)(a:ak):Res D:=match d with
 | .ob n=>match a[n]? with
  |some (.ins c' fs)=>if c'=c/\(fs.lookup m).isNone=true then(b a).bind λf h=>g (.ob n::f) h else .no
  | _=>.no
 | _=>.no
@[simp] theorem Z7{c m:Str}{b:List D->ak->Res D}{mo:M D}{a:M (List D)}{ρ:az}{O:ak}:cI c m b mo a ρ O=(mo ρ O).bind (meF c m b (a ρ)):=rfl
def mkF(n:Nat)(r:Res D):Res D:=match r with
 | .ok .non O2=>.ok (.ob n) O2
 | .ok _ _=>.no
 | .ex x O2=>.ex x O2
 | .no=>.no
@[simp] theorem Z8{c:Str}{d:List D->ak->Res D}{b:M (List D)}{ρ:az}{O:ak}:nW c d b ρ O=(b ρ O).bind λds a=>mkF a.length (d (.ob a.length::ds) (a++[.ins c []])):=by
 unfold nW;congr 1
@[simp] theorem Z9{n:Nat}{O:ak}:mkF n (.ok .non O)=.ok (.ob n) O:=rfl
def apF(i:Nat)(r:Res D)(ρ:az):Fl:=match r with
 | .ok d O'=>match ρ[i]? with
  |some (some (.lst ds))=>if ds.length<1000000 then .nx (ρ.set i (some (.lst (ds++[d])))) O' else .no
  | _=>.no
 | .ex x O'=>.ex x O'
 | .no=>.no
@[simp] theorem LR{i:Nat}{m:M D}{ρ:az}{O:ak}:dq i m ρ O=apF i (m ρ O) ρ:=rfl
theorem Ma{i:Nat}{d:D}{ds:List D}{ρ:az}{O:ak}(h:ρ[i]?=some (some (.lst ds)))(a:ds.length<1000000):apF i (.ok d O) ρ=.nx (ρ.set i (some (.lst (ds++[d])))) O:=by
 unfold apF;dsimp only;rw[h];dsimp only;rw[if_pos a]
def exF(i:Nat)(r:Res D)(ρ:az):Fl:=match r with
 | .ok d O'=>match ρ[i]?,bG O' d with
  |some (some (.lst ds)),.lst es=>if ds.length+es.length<=1000000 then .nx (ρ.set i (some (.lst (ds++es)))) O' else .no
  | _,_=>.no
 | .ex x O'=>.ex x O'
 | .no=>.no
@[simp] theorem QBz{i:Nat}{m:M D}{ρ:az}{O:ak}:iT i m ρ O=exF i (m ρ O) ρ:=rfl
def enF(d:D)(a:ak):Res (List D):=match d with
 | .lst ds=>.ok (tL 0 ds) a
 | .str l=>if ascii l=true then .ok (tL 0 (lW l)) a else .no
 | _=>.no
@[simp] theorem QBM{m:M D}{ρ:az}{O:ak}:Yo m ρ O=(m ρ O).bind enF:=rfl
def asF(r:Res D)(g:MG)(ρ:az):Fl:=match r with
 | .ok d O'=>match g d ρ with
  |some a=>.nx a O'
  |none=>.no
 | .ex x O'=>.ex x O'
 | .no=>.no
@[simp] theorem QBE{m:M D}{g:MG}{ρ:az}{O:ak}:sX m g ρ O=asF (m ρ O) g ρ:=rfl
@[simp] theorem QCi{i j:Nat}{a b:D}{ρ:az}:gw 2 (cM (mgN i) (cM (mgN j) ir)) (.tup [a,b]) ρ=some ((ρ.set i (some a)).set j (some b)):=rfl
def stF(a b:D)(O:ak):Res D:=match a,b with
 | .str l,.str n=>.ok (.bl (decide (l.take n.length=n))) O
 | _,_=>.no
@[simp] theorem QAC{a b:M D}{ρ:az}{O:ak}:Yc a b ρ O=(a ρ O).bind λx d=>(b ρ d).bind λy c=>stF x y c:=rfl
@[simp] theorem QCh{l n:List Nat}{O:ak}:stF (.str l) (.str n) O=.ok (.bl (decide (l.take n.length=n))) O:=rfl
theorem Mf{t:M Bool}{b:MS}(c:Nat->az->ak->Prop):∀(n:Nat) (k:Nat) (ρ:az) (O:ak),k<n->c k ρ O ->
  (∀k ρ O,c (k+1) ρ O->t ρ O=.ok true O/\∃j a d,j<=k/\b ρ O=.nx a d/\c j a d)->(∀ρ O,c 0 ρ O->t ρ O=.ok false O)->∃ρ' f,dw t b n ρ O=.nx ρ' f/\c 0 ρ' f
 | 0,k,ρ,O,hk,_,_,_=>absurd hk (Nat.not_lt_zero _)
 |n+1,0,ρ,O,_,h,_,h0=>by
  refine⟨ρ,O,?_,h⟩;unfold dw;rw[h0 ρ O h]
 |n+1,k+1,ρ,O,hk,h,hs,h0=>by
  obtain⟨l,j,a,d,m,i,h2⟩:=hs k ρ O h;obtain⟨ρ',f,g,h3⟩:=Mf c n j a d (by omega) h2 hs h0;refine⟨ρ',f,?_,h3⟩;unfold dw;rw[l];dsimp only;rw[i];exact g
theorem kW{α:Type}{g:MG}{t:M Bool}{m:M D}(b:az->Prop)(f h:α->D):∀(xs:List α) (ρ:az) (O:ak) (acc:List D),b ρ->(∀x∈xs,∀ρ,b ρ->∃a,g (f x) ρ=some a/\b a/\t a O=.ok true O/\m a O=.ok (h x) O)->cZ g t m (xs.map f) ρ O acc=.ok (acc++xs.map h) O
 | [],ρ,O,acc,_,_=>by simp[cZ]
 |x::xs,ρ,O,acc,hp,hs=>by
  obtain⟨a,j,h1,i,d⟩:=hs x zp ρ hp;rw[ze];unfold cZ;rw[j];dsimp only;rw[i];dsimp only;rw[d];dsimp only;rw[kW b f h xs a O _ h1 λl c=>hs l (zt _ c)];simp
def Mg:List Nat:=[101,110,100]
def Mh:List Nat:=[97,110,101,119]
def Mi:List Nat:=[112,108,97,105,110]
def iB:List Nat:=[115,105,103,110]
def Mj:List Nat:=[105,110,107]
def Ml:List Nat:=[103,114,111,117,110,100]
def item(p:Int)(k v:List Nat):D:=.tup [.int p,.str k,.str v]
def col(c:Nat):Bool:=decide (c∈[97,98,99,100,101,102,103,104,46])
def QAR(x:Nat):List Nat->List Nat×List Nat×Nat
 | []=>(iB,[91],0)
 |e::_=>if e=93 then(Ml,[x],3) else(iB,[91],0)
def QAU:List Nat->List Nat×List Nat×Nat
 | []=>(iB,[91],0)
 |x::t=>if col x=true then QAR x t else(iB,[91],0)
def QAF(x:Nat):List Nat->List Nat×List Nat×Nat
 | []=>(iB,[91],0)
 |e::_=>if e=93 then(Mj,[x],2) else(iB,[91],0)
def QAz:List Nat->List Nat×List Nat×Nat
 | []=>(iB,[91],0)
 |d::t=>if d=93 then(Mi,[],1) else if d=91 then(iB,[91],1) else if col d=true then QAF d t else if d=47 then QAU t else(iB,[91],0)
def one(c:Nat)(t:List Nat):List Nat×List Nat×Nat :=
 if c=10 then(Mg,[],0) else if c=9 then(Mh,[],0) else if c=91 then QAz t else(iB,[c],0)
def items(p:Int):List Nat->List D
 | []=>[]
 |c::t=>item p (one c t).1 (one c t).2.1::items (p+((one c t).2.2+1:Nat)) (t.drop (one c t).2.2)
termination_by l=>l.length
decreasing_by
 simp only[List.length_drop,zw];omega
def own(p:Int)(c:Nat):D:=if c=10 then item p Mg [] else if c=9 then item p Mh [] else item p iB [c]
def owns:Int->List Nat->List D
 | _,[]=>[]
 |p,c::l=>own p c::owns (p+1) l
def QAp:List Nat->Bool
 | [a]=>decide (a=91)
 | [a,b]=>decide (a=91)&&(decide (b=47) || col b)
 | [a,b,c]=>decide (a=91)&&(decide (b=47)&&col c)
 | _=>false
def markB:List Nat->Option (List Nat×List Nat)
 | [a,b]=>if a=91/\b=93 then some (Mi,[]) else if a=91/\b=91 then some (iB,[91]) else none
 | [a,b,c]=>if a=91/\col b=true/\c=93 then some (Mj,[b]) else none
 | [a,b,c,d]=>if a=91/\b=47/\col c=true/\d=93 then some (Ml,[c]) else none
 | _=>none
def tk(h:List Nat)(c:Nat)(p:Int):List D×List Nat :=
 if QAp (h++[c])=true then([],h++[c]) else match markB (h++[c]) with
 |some (k,v)=>([item p k v],[])
 |none=>if c=91 then(owns p h,[91]) else(owns p (h++[c]),[])
inductive ug:List Nat->Prop where
 | h0:ug []
 | h1:ug [91]
 | h2:ug [91,47]
 | h3 (x:Nat) (h:col x=true):ug [91,x]
 | h4 (x:Nat) (h:col x=true):ug [91,47,x]
theorem uh{n:Nat}{t:M Bool}{b:MS}{ρ:az}{O:ak}:gf n t b ρ O=dw t b n ρ O:=rfl
@[simp] theorem Qvt{l:List D}:gD [.lst l]=some (.lst l):=rfl
def fzF(f:Fl):Fl:=match f with
 | .rt d O'=>.rt d O'
 | _=>.no
@[simp] theorem QB1{m:MS}{ρ:az}{O:ak}:tO m ρ O=fzF (m ρ O):=rfl
@[simp] theorem QBO{d:D}{O:ak}:fzF (.rt d O)=.rt d O:=rfl
def ziF(d e:D)(O:ak):Res (List D):=match d,e with
 | .lst ds,.lst es=>.ok (kJ ds es) O
 | _,_=>.no
@[simp] theorem QB4{b a:M D}{ρ:az}{O:ak}:KY b a ρ O=(b ρ O).bind λd f=>(a ρ f).bind λe c=>ziF d e c:=by
 unfold KY;congr 1
@[simp] theorem QCa{ds es:List D}{O:ak}:ziF (.lst ds) (.lst es) O=.ok (kJ ds es) O:=rfl
end L2
namespace K63
open PySem L2
seal VE SE OE WE TsE TwE AE VS VSs VG VGs VI VIc VO VIf DPE
def top(i:Nat):Stmt:=PySem.Challenge.pw_outweave_k63_lines_shown.main.body.getD i (.Pass ⟨0,0,0,0⟩)
local macro_rules | `(tactic| trivial) => `(tactic| exact ⟨rfl, rfl, rfl, by decide +kernel, rfl, by decide +kernel, by decide +kernel⟩)
section
variable {Pr:Program}{w:World}{K:Frag}{mg:Str->Option Value}{base:Heap}
abbrev Ce:Stmt:=top 4
theorem Qpt:bB ["sign"] ["sign"] (aR Ce):=by trivial
def Cg:MS :=
  (aV (mIf (aJ (j7 gLe gLe (mC (.str [65])) (aa 0) (mC (.str [90])))) (mC (.int 2)) (mC (.int 1))))
def jw:List D->ak->Res D:=bC 1 Cg
abbrev wy(Pr:Program)(w:World)(K:Frag)(mg:Str->Option Value)(base:Heap):Prop:=Can Pr w K mg base "width_of" ["sign"] 1 (vSp K mg [.s] (rV K) jw)
theorem Qpr(a:Def K mg "width_of" Ce)
  (B:bM mg)
  (g:bD K=true):
  wy Pr w K mg base:=by
 refine bW (k:=0) (b:=Cg) a Qpt (λ_ _ _ _ _ _=>aQ λ_=>bO rfl) [.s] [] b8 (λ_ _ _ _=>Rp.non) (body:=λf c A outer s H E d P=>?_);refine aM ?_;refine cg ?_;refine vH ?_ aK aK;refine Xd jH jH (au (cU [65])) (aB 0) (au (cU [90]))
abbrev wz:Stmt:=top 6
theorem QpA:bB ["letters"] ["letters"] (aR wz):=by trivial
def Cj:MS :=
  (aV (aY pK (aj (c7 (bY (aa 0)) 1 [] (mgN 0) cQ (aH jw (aj (ao gIx (aa 0) (mC (.int 0))) aq))) aq)))
def wA:List D->ak->Res D:=bC 1 Cj
abbrev Mm(Pr:Program)(w:World)(K:Frag)(mg:Str->Option Value)(base:Heap):Prop:=Can Pr w K mg base "cells_of" ["letters"] 2 (vSp K mg [.s] (rV K) wA)
theorem Qpj(d:Def K mg "cells_of" wz)
  (B:bM mg)
  (h:bD K=true)
  (a:wy Pr w K mg base):
  Mm Pr w K mg base:=by
 refine bW (k:=1) (b:=Cj) d QpA (λ_ _ _ _ _ _=>aQ λ_=>bO rfl) [.s] [] b8 (λ_ _ _ _=>Rp.non) (body:=λf g A outer s H E c P=>?_);refine aM ?_;refine cg ?_;refine aX ?_;refine dz (ms:=[.s]) (hv:=Km) (Kh rfl) B.sum_ ?_;refine aC ?_ aG;refine aP ?_;refine lU (aR wz) ["letters"] ["letter"] [] rfl (iU (aB 0)) (λ_ _ _ _ P=>?_) (λ_ _ _ _ P=>?_) (λ_ _ _ _ P=>?_);exact bU (i:=0) (show(bF ["letters"] ["letter"] []).Nodup by decide +kernel) rfl (.inl rfl);exact iK;refine bL a (c.mono (by decide)) ?_;refine aC ?_ aG;refine au ?_;refine bR (au (aA 0)) (au aK)
abbrev Cm:Stmt:=top 8
theorem QpD:bB ["letters","place"] ["letters","place"] (aR Cm):=by trivial
def um:MS :=
  (aD (bc (aJ (ao gEq (aa 1) (aY bT (aj (aa 0) aq)))) (aV (mC (.bl true))) bj)
  (aV (ik (ao gEq (ao gIx (ao gIx (aa 0) (ao dB (aa 1) (mC (.int 1)))) (mC (.int 0))) (mC (.str [32]))) (ao gNe (ao gIx (ao gIx (aa 0) (aa 1)) (mC (.int 0))) (mC (.str [32]))))))
def mR:List D->ak->Res D:=bC 2 um
abbrev Mp(Pr:Program)(w:World)(K:Frag)(mg:Str->Option Value)(base:Heap):Prop:=Can Pr w K mg base "is_break" ["letters","place"] 1 (vSp K mg [.s,.s] (rV K) mR)
theorem Qph(c:Def K mg "is_break" Cm)
  (B:bM mg)
  (g:bD K=true):
  Mp Pr w K mg base:=by
 refine bW (k:=0) (b:=um) c QpD (λ_ _ _ _ _ _=>aQ λ_=>aQ λ_=>bO rfl) [.s,.s] [] b8 (λ_ _ _ _=>Rp.non) (body:=λf d A outer s H E a P=>?_);refine aL ?_ ?_;refine cD ?_ ?_ cL;refine bV (dC a) (aB 1) ?_ (bJ _);refine aP ?_;refine dz (ms:=[.s]) (hv:=d9) d8 B.len_ ?_;refine aC (aB 0) aG;refine aM (cg j5);refine aM ?_;refine cg ?_;refine pD ?_ ?_;refine aX ?_;refine j6 (dC a) ?_ (au (cU [32])) (bJ _);refine au ?_;refine bR ?_ (au aK);refine au ?_;refine bR (aB 0) ?_;refine aP ?_;refine aW j8 (aB 1) (au aK);refine nM ?_;refine aX ?_;refine j6 (pH a) ?_ (au (cU [32])) (bJ _)
 refine au ?_;refine bR ?_ (au aK);refine au ?_;refine bR (aB 0) (aB 1)
abbrev Cr:Stmt:=top 9
theorem uo:bB ["letters","lo","wide","end","cells"] ["letters","lo","wide"] (aR Cr):=by trivial
def wB:MS :=
  (aD (aF 3 (mG (aa 1)))
  (aD (aF 4 (mC (.int 0)))
  (aD (gf wF (eV (aJ (ao gLt (aa 3) (aY bT (aj (aa 0) aq)))) (aJ (ao gLe (ao aZ (aa 4) (aH jw (aj (ao gIx (ao gIx (aa 0) (aa 3)) (mC (.int 0))) aq))) (aa 2)))) (aD (aF 4 (ao aZ (aa 4) (aH jw (aj (ao gIx (ao gIx (aa 0) (aa 3)) (mC (.int 0))) aq))))
  (aF 3 (ao aZ (aa 3) (mC (.int 1))))))
  (aV (aa 3)))))
def mU:List D->ak->Res D:=bC 5 wB
abbrev uq(Pr:Program)(w:World)(K:Frag)(mg:Str->Option Value)(base:Heap):Prop:=Can Pr w K mg base "reach" ["letters","lo","wide"] 2 (vSp K mg [.s,.s,.s] (rV K) mU)
theorem Qt2(d:Def K mg "reach" Cr)
  (B:bM mg)
  (h:bD K=true)
  (a:wy Pr w K mg base):
  uq Pr w K mg base:=by
 refine bW (k:=1) (b:=wB) d uo (λ_ _ _ _ _ _=>aQ λ_=>aQ λ_=>aQ λ_=>bO rfl) [.s,.s,.s] [.v,.v] b8 (λ_ _ _ _=>Rp.non) (body:=λf g A outer s H E c P=>?_);refine aL ?_ ?_;refine bf (i:=3) uo.nd rfl (.inl rfl) (dF (aB 1));refine aL (bf (i:=4) uo.nd rfl (.inl rfl) aK) ?_;refine aL ?_ ?_;refine nQ wF ?_ ?_;refine jG ?_;refine sS ?_ ?_;refine bV nR (au (aA 3)) ?_ (bJ _);refine aP ?_;refine dz (ms:=[.s]) (hv:=d9) d8 B.len_ ?_;refine aC (aB 0) aG;refine sJ ?_;refine bV jH ?_ (aB 2) (bJ _);refine aP ?_;refine aW cX (au (aA 4)) ?_;refine au ?_
 refine bL a (c.mono (by decide)) ?_;refine aC ?_ aG;refine au ?_;refine bR ?_ (au aK);refine au ?_;refine bR (aB 0) (au (aA 3));refine aL ?_ ?_;refine bf (i:=4) uo.nd rfl (.inl rfl) ?_;refine aX ?_;refine aW cX (au (aA 4)) ?_;refine au ?_;refine bL a (c.mono (by decide)) ?_;refine aC ?_ aG;refine au ?_;refine bR ?_ (au aK);refine au ?_;refine bR (aB 0) (au (aA 3));refine aM ?_;refine bf (i:=3) uo.nd rfl (.inl rfl) ?_;refine aX ?_;refine aW cX (au (aA 3)) (au aK);refine aM (cg (aA 3))
abbrev Cv:Stmt:=top 10
theorem oH:bB ["letters","lo","wide","ends","cells","filled","place"] ["letters","lo","wide"] (aR Cv):=by trivial
def Mq:MS :=
  (aD (aF 3 (bI aq))
  (aD (aF 4 (mC (.int 0)))
  (aD (aF 5 (mC (.int 0)))
  (aD (cA (lX (aj (aa 1) (aj (aY bT (aj (aa 0) aq)) aq))) (mgN 6) (aD (aF 4 (ao aZ (aa 4) (aH jw (aj (ao gIx (ao gIx (aa 0) (aa 6)) (mC (.int 0))) aq))))
  (aD (bc (aJ (ao gNe (ao gIx (ao gIx (aa 0) (aa 6)) (mC (.int 0))) (mC (.str [32])))) (aF 5 (aa 4)) bj)
  (aD (bc (aJ (ao gGt (aa 5) (aa 2))) pF bj)
  (bc (cz (aH mR (aj (aa 0) (aj (ao aZ (aa 6) (mC (.int 1))) aq)))) (dq 3 (cG (aj (ao aZ (aa 6) (mC (.int 1))) (aj (aa 5) aq)))) bj)))))
  (aV (aa 3))))))
def Cw:List D->ak->Res D:=bC 7 Mq
abbrev Mr(Pr:Program)(w:World)(K:Frag)(mg:Str->Option Value)(base:Heap):Prop:=Can Pr w K mg base "fitting_ends" ["letters","lo","wide"] 2 (vSp K mg [.s,.s,.s] (rO K) Cw)
theorem Ql6(g:Def K mg "fitting_ends" Cv)
  (B:bM mg)
  (j:bD K=true)
  (c:wy Pr w K mg base)
  (d:Mp Pr w K mg base):
  Mr Pr w K mg base:=by
 refine bW (k:=1) (b:=Mq) g oH (λ_ _ _ _ _ _=>aQ λ_=>aQ λ_=>aQ λ_=>bO rfl) [.s,.s,.s] [.o,.v,.v,.v] dD (λ_ _ _ _=>.inl ⟨rfl,Rp.non⟩) (body:=λf h A outer s H E a P=>?_);refine aL ?_ ?_;refine il (i:=3) oH.nd rfl (.inl rfl) (dj 0 aG);refine aL (bf (i:=4) oH.nd rfl (.inl rfl) aK) ?_;refine aL (bf (i:=5) oH.nd rfl (.inl rfl) aK) ?_;refine aL ?_ (aM (nO 3));refine fH rfl ?_ (bU (i:=6) oH.nd rfl (.inl rfl)) ?_;refine Kw B.range_ ?_;refine aC (aB 1) ?_;refine aC ?_ aG;refine aP ?_;refine dz (ms:=[.s]) (hv:=d9) d8 B.len_ ?_;refine aC (aB 0) aG
 refine aL ?_ ?_;refine bf (i:=4) oH.nd rfl (.inl rfl) ?_;refine aX ?_;refine aW cX (au (aA 4)) ?_;refine au ?_;refine bL c (a.mono (by decide)) ?_;refine aC ?_ aG;refine au ?_;refine bR ?_ (au aK);refine au ?_;refine bR (aB 0) (au (aA 6));refine aL ?_ ?_;refine cD ?_ ?_ cL;refine bV (pH a) ?_ (au (cU [32])) (bJ _);refine au ?_;refine bR ?_ (au aK);refine au ?_;refine bR (aB 0) (au (aA 6));refine aM (bf (i:=5) oH.nd rfl (.inl rfl) (aA 4));refine aL ?_ ?_;refine cD ?_ (aM J0) cL;refine bV pG (au (aA 5)) (aB 2) (bJ _);refine aM ?_;refine cD ?_ ?_ cL
 refine ig ?_;refine au ?_;refine bL d (a.mono (by decide)) ?_;refine aC (aB 0) ?_;refine aC ?_ aG;refine aP ?_;refine aW cX (au (aA 6)) (au aK);refine aM ?_;refine lY 3 ?_;refine dZ 2 ?_;refine bh ?_ ?_;refine aX ?_;refine aW cX (au (aA 6)) (au aK);refine bh (aA 5) aG
abbrev CG:Stmt:=top 11
theorem CJ:bB ["letters","lo","wide","ends","end"] ["letters","lo","wide"] (aR CG):=by trivial
def qm:MS :=
  (aD (aF 3 (aH Cw (aj (aa 0) (aj (aa 1) (aj (aa 2) aq)))))
  (aD (bc (aJ (ao gGt (aY bT (aj (aa 3) aq)) (mC (.int 0)))) (aV (aa 3)) bj)
  (aD (aF 4 (aH mU (aj (aa 0) (aj (aa 1) (aj (aa 2) aq)))))
  (aV (bI (aj (cG (aj (aa 4) (aj (aH wA (aj (mSl (aa 0) (moS (mG (aa 1))) (moS (aa 4))) aq)) aq))) aq))))))
def ur:List D->ak->Res D:=bC 5 qm
abbrev CK(Pr:Program)(w:World)(K:Frag)(mg:Str->Option Value)(base:Heap):Prop:=Can Pr w K mg base "line_ends" ["letters","lo","wide"] 3 (vSp K mg [.s,.s,.s] (rO K) ur)
theorem QnY(h:Def K mg "line_ends" CG)
  (B:bM mg)
  (l:bD K=true)
  (g:Mr Pr w K mg base)
  (c:uq Pr w K mg base)
  (d:Mm Pr w K mg base):
  CK Pr w K mg base:=by
 refine bW (k:=2) (b:=qm) h CJ (λ_ _ _ _ _ _=>aQ λ_=>aQ λ_=>aQ λ_=>bO rfl) [.s,.s,.s] [.o,.v] dD (λ_ _ _ _=>.inl ⟨rfl,Rp.non⟩) (body:=λf j A outer s H E a P=>?_);refine aL ?_ ?_;refine il (i:=3) CJ.nd rfl (.inl rfl) ?_;refine fc g (a.mono (by decide)) ?_;refine aC (aB 0) ?_;refine aC (aB 1) ?_;refine aC (aB 2) aG;refine aL ?_ ?_;refine cD ?_ (aM (nO 3)) cL;refine bV pG ?_ (au aK) (bJ _);refine aP ?_;refine dz (ms:=[.s]) (hv:=d9) d8 B.len_ ?_;refine aC (aB 3) aG;refine aL ?_ ?_;refine bf (i:=4) CJ.nd rfl (.inl rfl) ?_;refine bL c (a.mono (by decide)) ?_
 refine aC (aB 0) ?_;refine aC (aB 1) ?_;refine aC (aB 2) aG;refine aM ?_;refine fO ?_;refine dj 1 ?_;refine bh ?_ aG;refine dZ 2 ?_;refine bh (aA 4) ?_;refine bh ?_ aG;refine bL d (a.mono (by decide)) ?_;refine aC ?_ aG;refine aP ?_;refine gh (aB 0) ?_ (d7 (aA 4));refine d7 (dF (aB 1))
abbrev CT:Stmt:=top 13
theorem Qpx:bB ["thing"] ["thing"] (aR CT):=by trivial
def CV:MS :=
  (aV (ik (eZ "int" (aa 0)) (Av (eZ "bool" (aa 0)))))
def CW:List D->ak->Res D:=bC 1 CV
abbrev Ms(Pr:Program)(w:World)(K:Frag)(mg:Str->Option Value)(base:Heap):Prop:=Can Pr w K mg base "is_whole" ["thing"] 1 (vSp K mg [.s] (rV K) CW)
theorem Qpi(a:Def K mg "is_whole" CT)
  (B:bM mg)
  (g:bD K=true):
  Ms Pr w K mg base:=by
 refine bW (k:=0) (b:=CV) a Qpx (λ_ _ _ _ _ _=>aQ λ_=>bO rfl) [.s] [] b8 (λ_ _ _ _=>Rp.non) (body:=λf c A outer s H E d P=>?_);refine aM ?_;refine cg ?_;refine pD ?_ ?_;refine aX (pL "int" (hb:=Bc) B.isinstance_ B.int_ (aB 0));refine nM ?_;refine Xj ?_;refine aX (pL "bool" (hb:=X5) B.isinstance_ B.bool_ (aB 0))
abbrev Dc:Stmt:=top 14
theorem Qow:bB ["thing","least","greatest"] ["thing","least","greatest"] (aR Dc):=by trivial
def Dd:MS :=
  (aV (ik (aH CW (aj (aa 0) aq)) (j7 gLe gLe (aa 1) (aa 0) (aa 2))))
def wC:List D->ak->Res D:=bC 3 Dd
abbrev Mt(Pr:Program)(w:World)(K:Frag)(mg:Str->Option Value)(base:Heap):Prop:=Can Pr w K mg base "is_within" ["thing","least","greatest"] 2 (vSp K mg [.s,.s,.s] (rV K) wC)
theorem Qpa(d:Def K mg "is_within" Dc)
  (B:bM mg)
  (h:bD K=true)
  (c:Ms Pr w K mg base):
  Mt Pr w K mg base:=by
 refine bW (k:=1) (b:=Dd) d Qow (λ_ _ _ _ _ _=>aQ λ_=>aQ λ_=>aQ λ_=>bO rfl) [.s,.s,.s] [] b8 (λ_ _ _ _=>Rp.non) (body:=λf g A outer s H E a P=>?_);refine aM ?_;refine cg ?_;refine pD ?_ ?_;refine bL c (a.mono (by decide)) ?_;refine aC (aB 0) aG;refine nM ?_;refine aX ?_;refine JV jH jH (aB 1) (aB 0) (aB 2)
abbrev Dh:Stmt:=top 17
theorem Mu:bB ["move","prices","beyond"] ["move","prices"] (aR Dh):=by trivial
def wD:MS :=
  (aD (aF 2 (dH (mG (aa 1)) (ao gIx (aa 0) (mC (.int 2)))))
  (aV (mIf (aJ (jF (aa 2))) (mC .non) (ao aZ (ao gIx (aa 0) (mC (.int 0))) (aa 2)))))
def kY:List D->ak->Res D:=bC 3 wD
abbrev Di(Pr:Program)(w:World)(K:Frag)(mg:Str->Option Value)(base:Heap):Prop:=Can Pr w K mg base "cost_over" ["move","prices"] 1 (vSp K mg [.s,.s] (rV K) kY)
theorem Qn6(d:Def K mg "cost_over" Dh)
  (B:bM mg)
  (c:bD K=true):
  Di Pr w K mg base:=by
 refine bW (k:=0) (b:=wD) d Mu (λ_ _ _ _ _ _=>aQ λ_=>aQ λ_=>bO rfl) [.s,.s] [.v] b8 (λ_ _ _ _=>Rp.non) (body:=λf g A outer s H E a P=>?_);refine aL ?_ ?_;refine bf (i:=2) Mu.nd rfl (.inl rfl) ?_;refine tY c a (dF (aB 1)) ?_;refine bR (aB 0) (au aK);refine aM ?_;refine cg ?_;refine vH ?_ Ao ?_;refine Ar (au (aA 2));refine aX ?_;refine aW cX ?_ (au (aA 2));refine au ?_;refine bR (aB 0) (au aK)
abbrev uv:Stmt:=top 18
theorem Mv:bB ["moves","prices","costs"] ["moves","prices"] (aR uv):=by trivial
def wG:MS :=
  (aD (aF 2 (c7 (bY (aa 0)) 1 [1] (mgN 0) cQ (aH kY (aj (aa 0) (aj (aa 1) aq)))))
  (aV (aY vR (aj (c7 (bY (aa 2)) 1 [] (mgN 0) (aJ (iJ (aa 0))) (aa 0)) aq))))
def oJ:List D->ak->Res D:=bC 3 wG
abbrev Dk(Pr:Program)(w:World)(K:Frag)(mg:Str->Option Value)(base:Heap):Prop:=Can Pr w K mg base "least_cost" ["moves","prices"] 2 (vSp K mg [.s,.s] (rV K) oJ)
theorem Qni(d:Def K mg "least_cost" uv)
  (B:bM mg)
  (h:bD K=true)
  (a:Di Pr w K mg base):
  Dk Pr w K mg base:=by
 refine bW (k:=1) (b:=wG) d Mv (λ_ _ _ _ _ _=>aQ λ_=>aQ λ_=>bO rfl) [.s,.s] [.v] b8 (λ_ _ _ _=>Rp.non) (body:=λf g A outer s H E c P=>?_);refine aL ?_ ?_;refine vI (i:=2) (aR uv) ["moves","prices","costs"] ["move"] [1] Mv.nd rfl (.inl rfl) rfl (iU (aB 0)) (λ_ _ _ _ P=>?_) (λ_ _ _ _ P=>?_) (λ_ _ _ _ P=>?_);exact bU (i:=0) (show(bF ["moves","prices","costs"] ["move"] [1]).Nodup by decide +kernel) rfl (.inl rfl);exact iK;refine bL a (c.mono (by decide)) ?_;refine aC (au (aA 0)) ?_;refine aC (aB 1) aG;refine aM ?_;refine cg ?_;refine aX ?_
 refine Ze rfl B.min_ ?_;refine aP ?_;refine lU (aR uv) ["moves","prices","costs"] ["cost"] [] rfl ?_ (λ_ _ _ _ P=>?_) (λ_ _ _ _ P=>?_) (λ_ _ _ _ P=>?_);refine iU (au (aA 2));exact bU (i:=0) (show(bF ["moves","prices","costs"] ["cost"] []).Nodup by decide +kernel) rfl (.inl rfl);refine J7 ?_;refine JX (au (aA 0));exact aA 0
abbrev Dm:Stmt:=inClass (top 24) 3
theorem Qk1:bB ["self","at"] ["self","at"] (aR Dm):=by trivial
def Mw:MS :=
  (aV (bI (aj (cG (aj (mG (aa 1)) (aj (mC (.int 0)) aq))) aq)))
def qt:List D->ak->Res D:=bC 2 Mw
abbrev Mx(Pr:Program)(w:World)(K:Frag)(mg:Str->Option Value)(base:Heap):Prop:=iw Pr w K mg base "Even" "nodes_at" ["self","at"] 1 (vSp K mg [.v,.s] (rO K) qt)
theorem Qk2(a:lZ K mg "Even" "nodes_at" "Even.nodes_at" Dm)
  (B:bM mg)
  (g:bD K=true):
  Mx Pr w K mg base:=by
 refine pP (k:=0) (b:=Mw) a Qk1 (λ_ _ _ _ _ _=>aQ λ_=>aQ λ_=>bO rfl) [.v,.s] [] dD (λ_ _ _ _=>.inl ⟨rfl,Rp.non⟩) (body:=λf c A outer s H E d P=>?_);refine aM ?_;refine fO ?_;refine dj 1 ?_;refine bh ?_ aG;refine dZ 2 ?_;refine bh (dF (aB 1)) ?_;refine bh aK aG
abbrev Do:Stmt:=inClass (top 24) 5
theorem QmE:bB ["self","node"] ["self","node"] (aR Do):=by trivial
def wH:MS :=
  (aV (ao gEq (aa 1) (cG (aj (aY bT (aj (fP ["Even"] "letters" (aa 0)) aq)) (aj (mC (.int 0)) aq)))))
def iD:List D->ak->Res D:=bC 2 wH
abbrev wI(Pr:Program)(w:World)(K:Frag)(mg:Str->Option Value)(base:Heap):Prop:=iw Pr w K mg base "Even" "is_end" ["self","node"] 1 (vSp K mg [.v,.s] (rV K) iD)
theorem Qmn(d:lZ K mg "Even" "is_end" "Even.is_end" Do)
  (B:bM mg)
  (h:bD K=true)
  (c:KC K mg "Even" "letters"):
  wI Pr w K mg base:=by
 refine pP (k:=0) (b:=wH) d QmE (λ_ _ _ _ _ _=>aQ λ_=>aQ λ_=>bO rfl) [.v,.s] [] b8 (λ_ _ _ _=>Rp.non) (body:=λf g A outer s H E a P=>?_);refine aM ?_;refine cg ?_;refine aX ?_;refine j6 (dC a) (aB 1) ?_ (bJ _);refine au ?_;refine dZ 2 ?_;refine bh ?_ ?_;refine aX ?_;refine dz (ms:=[.s]) (hv:=d9) d8 B.len_ ?_;refine aC ?_ aG;refine au (pO (mz c mq) (aA 0));refine bh aK aG
abbrev Dq:Stmt:=inClass (top 24) 6
theorem QlR:bB ["self","end","cells"] ["self","end","cells"] (aR Dq):=by trivial
def wJ:MS :=
  (aV (mIf (aJ (ao gEq (aa 1) (aY bT (aj (fP ["Even"] "letters" (aa 0)) aq)))) (mC (.int 0)) (ao eX (ao dB (fP ["Even"] "wide" (aa 0)) (aa 2)) (mC (.int 2)))))
def wK:List D->ak->Res D:=bC 3 wJ
abbrev Mz(Pr:Program)(w:World)(K:Frag)(mg:Str->Option Value)(base:Heap):Prop:=iw Pr w K mg base "Even" "cost_to" ["self","end","cells"] 1 (vSp K mg [.v,.s,.s] (rV K) wK)
theorem QlK(g:lZ K mg "Even" "cost_to" "Even.cost_to" Dq)
  (B:bM mg)
  (i:bD K=true)
  (d:KC K mg "Even" "letters")
  (a:KC K mg "Even" "wide"):
  Mz Pr w K mg base:=by
 refine pP (k:=0) (b:=wJ) g QlR (λ_ _ _ _ _ _=>aQ λ_=>aQ λ_=>aQ λ_=>bO rfl) [.v,.s,.s] [] b8 (λ_ _ _ _=>Rp.non) (body:=λf h A outer s H E c P=>?_);refine aM ?_;refine cg ?_;refine vH ?_ aK ?_;refine bV (dC c) (aB 1) ?_ (bJ _);refine aP ?_;refine dz (ms:=[.s]) (hv:=d9) d8 B.len_ ?_;refine aC ?_ aG;refine au (pO (mz d mq) (aA 0));refine aX ?_;refine aW sZ ?_ (au aK);refine aP ?_;refine aW j8 ?_ (aB 2);refine au (pO (mz a mq) (aA 0))
abbrev wL:Stmt:=inClass (top 24) 4
theorem MF:bB ["self","node","ends"] ["self","node"] (aR wL):=by trivial
def wM:MS :=
  (aD (bc (cz (cI "Even" "is_end" iD (aa 0) (aj (aa 1) aq))) (aV (bI aq)) bj)
  (aD (aF 2 (aH ur (aj (fP ["Even"] "letters" (aa 0)) (aj (ao gIx (aa 1) (mC (.int 0))) (aj (fP ["Even"] "wide" (aa 0)) aq)))))
  (aV (c7 (vQ (aa 2)) 2 [0] (gw 2 (cM (mgN 0) (cM (mgN 1) ir))) cQ (cG (aj (cI "Even" "cost_to" wK (aa 2) (aj (aa 0) (aj (aa 1) aq))) (aj (aY pW (aj (aa 0) aq)) (aj (cG (aj (aa 0) (aj (mC (.int 0)) aq))) aq))))))))
def jQ:List D->ak->Res D:=bC 3 wM
abbrev Ds(Pr:Program)(w:World)(K:Frag)(mg:Str->Option Value)(base:Heap):Prop:=iw Pr w K mg base "Even" "moves_from" ["self","node"] 4 (vSp K mg [.v,.s] (rO K) jQ)
theorem QjW(l:lZ K mg "Even" "moves_from" "Even.moves_from" wL)
  (B:bM mg)
  (n:bD K=true)
  (h:KC K mg "Even" "letters")
  (g:KC K mg "Even" "wide")
  (d:wI Pr w K mg base)
  (c:CK Pr w K mg base)
  (j:Mz Pr w K mg base):
  Ds Pr w K mg base:=by
 refine pP (k:=3) (b:=wM) l MF (λ_ _ _ _ _ _=>aQ λ_=>aQ λ_=>bO rfl) [.v,.s] [.v] dD (λ_ _ _ _=>.inl ⟨rfl,Rp.non⟩) (body:=λf m A outer s H E a P=>?_);refine aL ?_ ?_;refine cD ?_ ?_ cL;refine ig ?_;refine au ?_;refine vN d (a.mono (by decide)) (aA 0) ?_;refine aC (aB 1) aG;refine aM ?_;refine fO (dj 0 aG);refine aL ?_ ?_;refine bf (i:=2) MF.nd rfl (.inl rfl) ?_;refine aX ?_;refine fc c (a.mono (by decide)) ?_;refine aC ?_ ?_;refine au (pO (mz h mq) (aA 0));refine aC ?_ ?_;refine au ?_;refine bR (aB 1) (au aK);refine aC ?_ aG
 refine au (pO (mz g mq) (aA 0));refine aM ?_;refine fO ?_;refine lU (aR wL) ["self","node","ends"] ["end","cells"] [0] rfl ?_ (λ_ _ _ _ P=>?_) (λ_ _ _ _ P=>?_) (λ_ _ _ _ P=>?_);refine Ay ?_;refine Y6 B.reversed_ (pN (aA 2));refine sW 2 rfl ?_;refine gb (bU (i:=0) (show(bF ["self","node","ends"] ["end","cells"] [0]).Nodup by decide +kernel) rfl (.inl rfl)) ?_;refine gb (bU (i:=1) (show(bF ["self","node","ends"] ["end","cells"] [0]).Nodup by decide +kernel) rfl (.inl rfl)) sV;exact iK;refine dZ 3 ?_;refine bh ?_ ?_;refine vN j (a.mono (by decide)) (aA 2) ?_
 refine aC (au (aA 0)) ?_;refine aC (au (aA 1)) aG;refine bh ?_ ?_;refine aX ?_;refine nT (ms:=[.s]) (hv:=Ko) Y7 B.str_ ?_;refine aC (au (aA 0)) aG;refine bh ?_ aG;refine dZ 2 ?_;refine bh (aA 0) ?_;refine bh aK aG
abbrev Dv:Stmt:=top 19
theorem mV:bB ["trail","at","prices","moves","node","changed","cost"] ["trail","at","prices"] (aR Dv):=by trivial
def wN:MS :=
  (aD (aF 3 tV)
  (aD (cA (bY (cI "Even" "nodes_at" qt (mG (aa 0)) (aj (aa 1) aq))) (mgN 4) (aD (gJ (aa 3) (aa 4) (cI "Even" "moves_from" jQ (mG (aa 0)) (aj (aa 4) aq)))
  (gJ (mG (aa 2)) (aa 4) (mIf (cz (cI "Even" "is_end" iD (mG (aa 0)) (aj (aa 4) aq))) (mC (.int 0)) (mC .non)))))
  (aD (aF 5 (mC (.bl true)))
  (gf 10 (cz (aa 5)) (aD (aF 5 (mC (.bl false)))
  (pY 3 (cA (pX (aa 3)) (mgN 4) (aD (aF 6 (aH oJ (aj (dH (aa 3) (aa 4)) (aj (aa 2) aq))))
  (bc (eV (aJ (iJ (aa 6))) (dJ (aJ (jF (dH (mG (aa 2)) (aa 4)))) (aJ (ao gLt (aa 6) (dH (mG (aa 2)) (aa 4)))))) (aD (gJ (mG (aa 2)) (aa 4) (aa 6))
  (aF 5 (mC (.bl true)))) bj)))))))))
def uw:List D->ak->Res D:=bC 7 wN
abbrev MJ(Pr:Program)(w:World)(K:Frag)(mg:Str->Option Value)(base:Heap):Prop:=Can Pr w K mg base "price_nodes" ["trail","at","prices"] 5 (vSp K mg [.s,.s,.s] (rV K) uw)
theorem Qmq(l:Def K mg "price_nodes" Dv)
  (B:bM mg)
  (c:bD K=true)
  (j:Mx Pr w K mg base)
  (g:Ds Pr w K mg base)
  (h:wI Pr w K mg base)
  (d:Dk Pr w K mg base):
  MJ Pr w K mg base:=by
 refine bW (k:=4) (b:=wN) l mV (λ_ _ _ _ _ _=>aQ λ_=>aQ λ_=>aQ λ_=>bO rfl) [.s,.s,.s] [.v,.v,.v,.v] b8 (λ_ _ _ _=>Rp.non) (body:=λf m A outer s H E a P=>?_);refine aL (bf (i:=3) mV.nd rfl (.inl rfl) K4) ?_;refine aL ?_ ?_;refine fH rfl ?_ (bU (i:=4) mV.nd rfl (.inl rfl)) ?_;refine pR ?_;refine pN ?_;refine aX ?_;refine Bm j (a.mono (by decide)) (dF (aB 0)) ?_;refine aC (aB 1) aG;refine aL ?_ ?_;refine Bq c a (aA 3) (aA 4) ?_;refine aX ?_;refine Bm g (a.mono (by decide)) (dF (aB 0)) ?_;refine aC (au (aA 4)) aG;refine aM ?_;refine Bq c a (dF (aB 2)) (aA 4) ?_
 refine vH ?_ aK Ao;refine ig ?_;refine au ?_;refine vN h (a.mono (by decide)) (dF (aB 0)) ?_;refine aC (au (aA 4)) aG;refine aL (bf (i:=5) mV.nd rfl (.inl rfl) j5) ?_;refine aM ?_;refine nQ 10 ?_ ?_;refine ig (au (aA 5));refine aL (bf (i:=5) mV.nd rfl (.inl rfl) j5) ?_;refine aM ?_;refine Zv 3 ?_;refine fH rfl (Zu (aA 3)) (bU (i:=4) mV.nd rfl (.inl rfl)) ?_;refine aL ?_ ?_;refine bf (i:=6) mV.nd rfl (.inl rfl) ?_;refine bL d (a.mono (by decide)) ?_;refine aC ?_ ?_;refine au ?_;refine tY c a (aA 3) (aA 4);refine aC (aB 2) aG;refine aM ?_;refine cD ?_ ?_ cL
 refine jG ?_;refine sS ?_ ?_;refine JX (au (aA 6));refine sJ ?_;refine jG ?_;refine pC ?_ ?_;refine Ar ?_;refine au ?_;refine tY c a (dF (aB 2)) (aA 4);refine sO ?_;refine bV nR (au (aA 6)) ?_ (bJ _);refine au ?_;refine tY c a (dF (aB 2)) (aA 4);refine aL ?_ ?_;refine Bq c a (dF (aB 2)) (aA 4) (aA 6);refine aM (bf (i:=5) mV.nd rfl (.inl rfl) j5)
abbrev Dz:Stmt:=inClass (top 24) 2
theorem Qly:bB ["self"] ["self"] (aR Dz):=by trivial
def wO:MS :=
  (aV (aY bT (aj (fP ["Even"] "letters" (aa 0)) aq)))
def ux:List D->ak->Res D:=bC 1 wO
abbrev MK(Pr:Program)(w:World)(K:Frag)(mg:Str->Option Value)(base:Heap):Prop:=iw Pr w K mg base "Even" "last_at" ["self"] 1 (vSp K mg [.v] (rV K) ux)
theorem QlY(c:lZ K mg "Even" "last_at" "Even.last_at" Dz)
  (B:bM mg)
  (h:bD K=true)
  (a:KC K mg "Even" "letters"):
  MK Pr w K mg base:=by
 refine pP (k:=0) (b:=wO) c Qly (λ_ _ _ _ _ _=>aQ λ_=>bO rfl) [.v] [] b8 (λ_ _ _ _=>Rp.non) (body:=λf d A outer s H E g P=>?_);refine aM ?_;refine cg ?_;refine aX ?_;refine dz (ms:=[.s]) (hv:=d9) d8 B.len_ ?_;refine aC ?_ aG;refine au (pO (mz a mq) (aA 0))
abbrev DK:Stmt:=top 20
theorem DN:bB ["trail","prices","at"] ["trail"] (aR DK):=by trivial
def wQ:MS :=
  (aD (aF 1 tV)
  (aD (cA (vU (aj (cI "Even" "last_at" ux (mG (aa 0)) aq) (aj (mUn iM (mC (.int 1))) (aj (mUn iM (mC (.int 1))) aq)))) (mgN 2) (sU (aH uw (aj (aa 0) (aj (aa 2) (aj (aa 1) aq))))))
  (aV (aa 1))))
def wR:List D->ak->Res D:=bC 3 wQ
abbrev MN(Pr:Program)(w:World)(K:Frag)(mg:Str->Option Value)(base:Heap):Prop:=Can Pr w K mg base "priced" ["trail"] 6 (vSp K mg [.s] (rV K) wR)
theorem Qtd(g:Def K mg "priced" DK)
  (B:bM mg)
  (j:bD K=true)
  (d:MK Pr w K mg base)
  (c:MJ Pr w K mg base):
  MN Pr w K mg base:=by
 refine bW (k:=5) (b:=wQ) g DN (λ_ _ _ _ _ _=>aQ λ_=>bO rfl) [.s] [.v,.v] b8 (λ_ _ _ _=>Rp.non) (body:=λf h A outer s H E a P=>?_);refine aL (bf (i:=1) DN.nd rfl (.inl rfl) K4) ?_;refine aL ?_ ?_;refine fH rfl ?_ (bU (i:=2) DN.nd rfl (.inl rfl)) ?_;refine Zj B.range_ ?_;refine aC ?_ ?_;refine au ?_;refine KR d (a.mono (by decide)) (dF (aB 0));refine aC ?_ ?_;refine aP ?_;refine tG (au aK);refine aC ?_ aG;refine aP ?_;refine tG (au aK);refine aM ?_;refine Xl ?_;refine au ?_;refine bL c (a.mono (by decide)) ?_;refine aC (aB 0) ?_;refine aC (au (aA 2)) ?_
 refine aC (au (aA 1)) aG;refine aM (cg (aA 1))
abbrev wU:Stmt:=top 21
theorem MP:bB ["moves","prices","least"] ["moves","prices"] (aR wU):=by trivial
def wV:MS :=
  (aD (aF 2 (aH oJ (aj (aa 0) (aj (aa 1) aq))))
  (aV (ao gIx (c7 (bY (aa 0)) 1 [1,2] (mgN 0) (aJ (ao gEq (aH kY (aj (aa 0) (aj (aa 1) aq))) (aa 2))) (aa 0)) (mC (.int 0)))))
def uy:List D->ak->Res D:=bC 3 wV
abbrev MT(Pr:Program)(w:World)(K:Frag)(mg:Str->Option Value)(base:Heap):Prop:=Can Pr w K mg base "first_cheapest" ["moves","prices"] 3 (vSp K mg [.s,.s] (rV K) uy)
theorem QkH(g:Def K mg "first_cheapest" wU)
  (B:bM mg)
  (j:bD K=true)
  (c:Dk Pr w K mg base)
  (d:Di Pr w K mg base):
  MT Pr w K mg base:=by
 refine bW (k:=2) (b:=wV) g MP (λ_ _ _ _ _ _=>aQ λ_=>aQ λ_=>bO rfl) [.s,.s] [.v] b8 (λ_ _ _ _=>Rp.non) (body:=λf h A outer s H E a P=>?_);refine aL ?_ ?_;refine bf (i:=2) MP.nd rfl (.inr rfl) ?_;refine bL c (a.mono (by decide)) ?_;refine aC (aB 0) ?_;refine aC (aB 1) aG;refine aM ?_;refine cg ?_;refine bR ?_ (au aK);refine aP ?_;refine lU (aR wU) ["moves","prices","least"] ["move"] [1,2] rfl (iU (aB 0)) (λ_ _ _ _ P=>?_) (λ_ _ _ _ P=>?_) (λ_ _ _ _ P=>?_);exact bU (i:=0) (show(bF ["moves","prices","least"] ["move"] [1,2]).Nodup by decide +kernel) rfl (.inl rfl)
 refine J7 ?_;refine bV (dC a) ?_ (au (aA 2)) (bJ _);refine au ?_;refine bL d (a.mono (by decide)) ?_;refine aC (au (aA 0)) ?_;refine aC (aB 1) aG;exact aA 0
abbrev DX:Stmt:=inClass (top 24) 1
theorem Qjz:bB ["self"] ["self"] (aR DX):=by trivial
def M4:MS :=
  (aV (cG (aj (mC (.int 0)) (aj (mC (.int 0)) aq))))
def uz:List D->ak->Res D:=bC 1 M4
abbrev M5(Pr:Program)(w:World)(K:Frag)(mg:Str->Option Value)(base:Heap):Prop:=iw Pr w K mg base "Even" "first_node" ["self"] 1 (vSp K mg [.v] (rV K) uz)
theorem QjH(a:lZ K mg "Even" "first_node" "Even.first_node" DX)
  (B:bM mg)
  (g:bD K=true):
  M5 Pr w K mg base:=by
 refine pP (k:=0) (b:=M4) a Qjz (λ_ _ _ _ _ _=>aQ λ_=>bO rfl) [.v] [] b8 (λ_ _ _ _=>Rp.non) (body:=λf c A outer s H E d P=>?_);refine aM ?_;refine cg ?_;refine dZ 2 ?_;refine bh aK ?_;refine bh aK aG
abbrev Ea:Stmt:=top 22
theorem oK:bB ["trail","prices","node","cost","names","move"] ["trail"] (aR Ea):=by trivial
def wW:MS :=
  (aD (aF 1 (aH wR (aj (aa 0) aq)))
  (aD (aF 2 (cI "Even" "first_node" uz (mG (aa 0)) aq))
  (aD (aF 3 (dH (aa 1) (aa 2)))
  (aD (bc (aJ (jF (aa 3))) (aV (mC .non)) bj)
  (aD (aF 4 (bI aq))
  (aD (gf 250 (dM (cz (cI "Even" "is_end" iD (mG (aa 0)) (aj (aa 2) aq)))) (aD (aF 5 (aH uy (aj (cI "Even" "moves_from" jQ (mG (aa 0)) (aj (aa 2) aq)) (aj (aa 1) aq))))
  (aD (dq 4 (ao gIx (aa 5) (mC (.int 1))))
  (aF 2 (ao gIx (aa 5) (mC (.int 2)))))))
  (tO (aV (cG (aj (aa 3) (aj (aa 4) aq)))))))))))
def uA:List D->ak->Res D:=bC 6 wW
abbrev M6(Pr:Program)(w:World)(K:Frag)(mg:Str->Option Value)(base:Heap):Prop:=Can Pr w K mg base "way_of" ["trail"] 7 (vSp K mg [.s] (rV K) uA)
theorem Qr7(m:Def K mg "way_of" Ea)
  (B:bM mg)
  (g:bD K=true)
  (l:MN Pr w K mg base)
  (j:M5 Pr w K mg base)
  (d:wI Pr w K mg base)
  (h:MT Pr w K mg base)
  (c:Ds Pr w K mg base):
  M6 Pr w K mg base:=by
 refine bW (k:=6) (b:=wW) m oK (λ_ _ _ _ _ _=>aQ λ_=>bO rfl) [.s] [.v,.v,.v,.o,.v] b8 (λ_ _ _ _=>Rp.non) (body:=λf n A outer s H E a P=>?_);refine aL ?_ ?_;refine bf (i:=1) oK.nd rfl (.inl rfl) ?_;refine bL l (a.mono (by decide)) ?_;refine aC (aB 0) aG;refine aL ?_ ?_;refine bf (i:=2) oK.nd rfl (.inl rfl) ?_;refine KR j (a.mono (by decide)) (dF (aB 0));refine aL ?_ ?_;refine bf (i:=3) oK.nd rfl (.inl rfl) ?_;refine tY g a (aA 1) (aA 2);refine aL ?_ ?_;refine cD ?_ ?_ cL;refine Ar (au (aA 3));refine aM (cg Ao);refine aL ?_ ?_;refine il (i:=4) oK.nd rfl (.inl rfl) (dj 0 aG)
 refine aL ?_ ?_;refine nQ 250 ?_ ?_;refine nH ?_;refine ig ?_;refine au ?_;refine vN d (a.mono (by decide)) (dF (aB 0)) ?_;refine aC (au (aA 2)) aG;refine aL ?_ ?_;refine bf (i:=5) oK.nd rfl (.inl rfl) ?_;refine bL h (a.mono (by decide)) ?_;refine aC ?_ ?_;refine aP ?_;refine Bm c (a.mono (by decide)) (dF (aB 0)) ?_;refine aC (au (aA 2)) aG;refine aC (au (aA 1)) aG;refine aL ?_ ?_;refine lY 4 ?_;refine bR (au (aA 5)) (au aK);refine aM ?_;refine bf (i:=2) oK.nd rfl (.inl rfl) ?_;refine bR (au (aA 5)) (au aK);refine aM ?_;refine Yx 4 rfl ?_
 refine cg ?_;refine dZ 2 ?_;refine bh (aA 3) ?_;refine bh (aA 4) aG
abbrev Eg:Stmt:=inClass (top 24) 0
theorem Qk8:bB ["self","letters","wide"] ["self","letters","wide"] (aR Eg):=by trivial
def wX:MS :=
  (aD (kI ["Even"] "letters" (aa 0) (aY gD (aj (aa 1) aq)))
  (kI ["Even"] "wide" (aa 0) (mG (aa 2))))
def uB:List D->ak->Res D:=bC 3 wX
abbrev M7(Pr:Program)(w:World)(K:Frag)(mg:Str->Option Value)(base:Heap):Prop:=Bk Pr w K mg base "Even" ["self","letters","wide"] 1 (vSp K mg [.v,.s,.s] (rV K) uB)
theorem QkU(d:Bl K mg "Even" "Even.__init__" Eg)
  (B:bM mg)
  (i:bD K=true)
  (c:KC K mg "Even" "letters")
  (a:KC K mg "Even" "wide"):
  M7 Pr w K mg base:=by
 refine Yj (k:=0) (b:=wX) d Qk8 (λ_ _ _ _ _ _=>aQ λ_=>aQ λ_=>aQ λ_=>bO rfl) [.v,.s,.s] [] b8 (λ_ _ _ _=>Rp.non) (body:=λf g A outer s H E h P=>?_);refine aL ?_ ?_;refine Kz (mz c mq) (aA 0) ?_;refine aX ?_;refine nT (ms:=[.s]) (hv:=nU) vK B.list_ ?_;refine aC (aB 1) aG;refine aM ?_;refine Kz (mz a mq) (aA 0) (dF (aB 2))
abbrev wY:Stmt:=top 25
theorem Ei:bB ["letters","wide","way","ends"] ["letters","wide"] (aR wY):=by trivial
def wZ:MS :=
  (aD (aF 2 (aH uA (aj (nW "Even" uB (aj (aa 0) (aj (aa 1) aq))) aq)))
  (aD (aF 3 (c7 (bY (ao gIx (aa 2) (mC (.int 1)))) 1 [] (mgN 0) cQ (aY p7 (aj (aa 0) aq))))
  (aD (bc (aJ (ao gEq (aY bT (aj (aa 3) aq)) (mC (.int 0)))) (aV (bI (aj (cG (aj (mC (.int 0)) (aj (mC (.int 0)) aq))) aq))) bj)
  (aV (aY gLZ (aj (ao aZ (bI (aj (mC (.int 0)) aq)) (aa 3)) (aj (aa 3) aq)))))))
def qz:List D->ak->Res D:=bC 4 wZ
abbrev M8(Pr:Program)(w:World)(K:Frag)(mg:Str->Option Value)(base:Heap):Prop:=Can Pr w K mg base "even" ["letters","wide"] 8 (vSp K mg [.s,.s] (rO K) qz)
theorem QwP(g:Def K mg "even" wY)
  (B:bM mg)
  (j:bD K=true)
  (d:M6 Pr w K mg base)
  (c:M7 Pr w K mg base):
  M8 Pr w K mg base:=by
 refine bW (k:=7) (b:=wZ) g Ei (λ_ _ _ _ _ _=>aQ λ_=>aQ λ_=>bO rfl) [.s,.s] [.v,.v] dD (λ_ _ _ _=>.inl ⟨rfl,Rp.non⟩) (body:=λf h A outer s H E a P=>?_);refine aL ?_ ?_;refine bf (i:=2) Ei.nd rfl (.inl rfl) ?_;refine bL d (a.mono (by decide)) ?_;refine aC ?_ aG;refine au ?_;refine Ym c (a.mono (by decide)) ?_;refine aC (aB 0) ?_;refine aC (aB 1) aG;refine aL ?_ ?_;refine vI (i:=3) (aR wY) ["letters","wide","way","ends"] ["name"] [] Ei.nd rfl (.inl rfl) rfl ?_ (λ_ _ _ _ P=>?_) (λ_ _ _ _ P=>?_) (λ_ _ _ _ P=>?_);refine iU ?_;refine au ?_
 refine bR (au (aA 2)) (au aK);exact bU (i:=0) (show(bF ["letters","wide","way","ends"] ["name"] []).Nodup by decide +kernel) rfl (.inl rfl);exact iK;refine aX ?_;refine nT (ms:=[.s]) (hv:=Bc) ZG B.int_ ?_;refine aC (au (aA 0)) aG;refine aL ?_ ?_;refine cD ?_ ?_ cL;refine bV (dC a) ?_ (au aK) (bJ _);refine aP ?_;refine dz (ms:=[.s]) (hv:=d9) d8 B.len_ ?_;refine aC (au (aA 3)) aG;refine aM ?_;refine fO ?_;refine dj 1 ?_;refine bh ?_ aG;refine dZ 2 ?_;refine bh aK ?_;refine bh aK aG;refine aM ?_;refine fO ?_;refine YZ (ms:=[.s,.s]) rfl B.list_ B.zip_ ?_
 refine aC ?_ ?_;refine aP ?_;refine aW cX ?_ (au (aA 3));refine aP ?_;refine dj 1 ?_;refine bh aK aG;refine aC (au (aA 3)) aG
abbrev Em:Stmt:=top 30
theorem QrE:bB ["thing"] ["thing"] (aR Em):=by trivial
def En:MS :=
  (aV (ik (eZ "str" (aa 0)) (ao (gIn false) (aa 0) (mC (.tup [.str [99,117,116],.str [99,101,108,108,115],.str [119,111,114,100,115],.str [101,118,101,110]])))))
def w5:List D->ak->Res D:=bC 1 En
abbrev M9(Pr:Program)(w:World)(K:Frag)(mg:Str->Option Value)(base:Heap):Prop:=Can Pr w K mg base "is_way" ["thing"] 1 (vSp K mg [.s] (rV K) w5)
theorem QrX(c:Def K mg "is_way" Em)
  (B:bM mg)
  (h:bD K=true)
  (a:Bp K mg "WAYS" [[99,117,116],[99,101,108,108,115],[119,111,114,100,115],[101,118,101,110]]):
  M9 Pr w K mg base:=by
 refine bW (k:=0) (b:=En) c QrE (λ_ _ _ _ _ _=>aQ λ_=>bO rfl) [.s] [] b8 (λ_ _ _ _=>Rp.non) (body:=λf d A outer s H E g P=>?_);refine aM ?_;refine cg ?_;refine pD ?_ ?_;refine aX (pL "str" (hb:=Ko) B.isinstance_ B.str_ (aB 0));refine nM ?_;refine aX ?_;refine j6 XJ (aB 0) (au (YC (ls:=[[99,117,116],[99,101,108,108,115],[119,111,114,100,115],[101,118,101,110]]) a)) (by with_unfolding_all rfl)
abbrev Er:Stmt:=top 31
theorem Qpq:bB ["letters","lo","wide","way"] ["letters","lo","wide","way"] (aR Er):=by trivial
def qC:MS :=
  (aD (bc (aJ (ao gEq (aa 3) (mC (.str [119,111,114,100,115])))) (aV (ao gIx (ao gIx (aH ur (aj (aa 0) (aj (aa 1) (aj (aa 2) aq)))) (mUn iM (mC (.int 1)))) (mC (.int 0)))) bj)
  (aV (aH mU (aj (aa 0) (aj (aa 1) (aj (aa 2) aq))))))
def uC:List D->ak->Res D:=bC 4 qC
abbrev Nb(Pr:Program)(w:World)(K:Frag)(mg:Str->Option Value)(base:Heap):Prop:=Can Pr w K mg base "next_end" ["letters","lo","wide","way"] 4 (vSp K mg [.s,.s,.s,.s] (rV K) uC)
theorem QpE(g:Def K mg "next_end" Er)
  (B:bM mg)
  (i:bD K=true)
  (c:CK Pr w K mg base)
  (d:uq Pr w K mg base):
  Nb Pr w K mg base:=by
 refine bW (k:=3) (b:=qC) g Qpq (λ_ _ _ _ _ _=>aQ λ_=>aQ λ_=>aQ λ_=>aQ λ_=>bO rfl) [.s,.s,.s,.s] [] b8 (λ_ _ _ _=>Rp.non) (body:=λf h A outer s H E a P=>?_);refine aL ?_ ?_;refine cD ?_ ?_ cL;refine bV (dC a) (aB 3) (au (cU [119,111,114,100,115])) (bJ _);refine aM ?_;refine cg ?_;refine bR ?_ (au aK);refine au ?_;refine bR ?_ ?_;refine aP ?_;refine fc c (a.mono (by decide)) ?_;refine aC (aB 0) ?_;refine aC (aB 1) ?_;refine aC (aB 2) aG;refine aP ?_;refine tG (au aK);refine aM ?_;refine cg ?_;refine bL d (a.mono (by decide)) ?_
 refine aC (aB 0) ?_;refine aC (aB 1) ?_;refine aC (aB 2) aG
abbrev Et:Stmt:=top 32
theorem uD:bB ["letters","wide","way","stretches","lo","hi"] ["letters","wide","way"] (aR Et):=by trivial
def w6:MS :=
  (aD (aF 3 (bI aq))
  (aD (aF 4 (mC (.int 0)))
  (aD (gf wF (aJ (ao gLt (aa 4) (aY bT (aj (aa 0) aq)))) (aD (aF 5 (aH uC (aj (aa 0) (aj (aa 4) (aj (aa 1) (aj (aa 2) aq))))))
  (aD (dq 3 (cG (aj (aa 4) (aj (aa 5) aq))))
  (aF 4 (aa 5)))))
  (aV (aa 3)))))
def uE:List D->ak->Res D:=bC 6 w6
abbrev Nf(Pr:Program)(w:World)(K:Frag)(mg:Str->Option Value)(base:Heap):Prop:=Can Pr w K mg base "end_to_end" ["letters","wide","way"] 5 (vSp K mg [.s,.s,.s] (rO K) uE)
theorem Qnc(d:Def K mg "end_to_end" Et)
  (B:bM mg)
  (h:bD K=true)
  (c:Nb Pr w K mg base):
  Nf Pr w K mg base:=by
 refine bW (k:=4) (b:=w6) d uD (λ_ _ _ _ _ _=>aQ λ_=>aQ λ_=>aQ λ_=>bO rfl) [.s,.s,.s] [.o,.v,.v] dD (λ_ _ _ _=>.inl ⟨rfl,Rp.non⟩) (body:=λf g A outer s H E a P=>?_);refine aL ?_ ?_;refine il (i:=3) uD.nd rfl (.inl rfl) (dj 0 aG);refine aL (bf (i:=4) uD.nd rfl (.inl rfl) aK) ?_;refine aL ?_ (aM (nO 3));refine nQ wF ?_ ?_;refine bV nR (au (aA 4)) ?_ (bJ _);refine aP ?_;refine dz (ms:=[.s]) (hv:=d9) d8 B.len_ ?_;refine aC (aB 0) aG;refine aL ?_ ?_;refine bf (i:=5) uD.nd rfl (.inl rfl) ?_;refine bL c (a.mono (by decide)) ?_;refine aC (aB 0) ?_
 refine aC (au (aA 4)) ?_;refine aC (aB 1) ?_;refine aC (aB 2) aG;refine aL ?_ ?_;refine lY 3 ?_;refine dZ 2 ?_;refine bh (aA 4) ?_;refine bh (aA 5) aG;refine aM (bf (i:=4) uD.nd rfl (.inl rfl) (aA 5))
abbrev Ex:Stmt:=top 33
theorem Qwk:bB ["letters","wide","way"] ["letters","wide","way"] (aR Ex):=by trivial
def qD:MS :=
  (aD (bc (dM (cz (aH wC (aj (aa 1) (aj (mC (.int 2)) (aj (mC (.int 40)) aq)))))) Aw bj)
  (aD (bc (dM (cz (aH w5 (aj (aa 2) aq)))) Aw bj)
  (aD (bc (aJ (ao gEq (aY bT (aj (aa 0) aq)) (mC (.int 0)))) (aV (bI (aj (cG (aj (mC (.int 0)) (aj (mC (.int 0)) aq))) aq))) bj)
  (aD (bc (aJ (ao gEq (aa 2) (mC (.str [99,117,116])))) (aV (bI (aj (cG (aj (mC (.int 0)) (aj (aH mU (aj (aa 0) (aj (mC (.int 0)) (aj (aa 1) aq)))) aq))) aq))) bj)
  (aD (bc (aJ (ao gEq (aa 2) (mC (.str [101,118,101,110])))) (aV (aH qz (aj (aa 0) (aj (aa 1) aq)))) bj)
  (aV (aH uE (aj (aa 0) (aj (aa 1) (aj (aa 2) aq))))))))))
def oM:List D->ak->Res D:=bC 3 qD
abbrev Ng(Pr:Program)(w:World)(K:Frag)(mg:Str->Option Value)(base:Heap):Prop:=Can Pr w K mg base "fold" ["letters","wide","way"] 9 (vSp K mg [.s,.s,.s] (rO K) oM)
theorem Qvy(l:Def K mg "fold" Ex)
  (B:bM mg)
  (q:bD K=true)
  (j:∃u,mg "GREATEST_BREADTH" = some u/\RelV (.int 40) u)
  (m:∃u,mg "LEAST_BREADTH" = some u/\RelV (.int 2) u)
  (i:Mt Pr w K mg base)
  (h:M9 Pr w K mg base)
  (c:uq Pr w K mg base)
  (g:M8 Pr w K mg base)
  (d:Nf Pr w K mg base):
  Ng Pr w K mg base:=by
 refine bW (k:=8) (b:=qD) l Qwk (λ_ _ _ _ _ _=>aQ λ_=>aQ λ_=>aQ λ_=>bO rfl) [.s,.s,.s] [] dD (λ_ _ _ _=>.inl ⟨rfl,Rp.non⟩) (body:=λf n A outer s H E a P=>?_);refine aL ?_ ?_;refine cD ?_ (aM J1) cL;refine nH ?_;refine ig ?_;refine au ?_;refine bL i (a.mono (by decide)) ?_;refine aC (aB 1) ?_;refine aC ?_ ?_;refine au ?_;refine nG m (λ_ _ _=>Rp.int);refine aC ?_ aG;refine au ?_;refine nG j (λ_ _ _=>Rp.int);refine aL ?_ ?_;refine cD ?_ (aM J1) cL;refine nH ?_;refine ig ?_;refine au ?_;refine bL h (a.mono (by decide)) ?_
 refine aC (aB 2) aG;refine aL ?_ ?_;refine cD ?_ ?_ cL;refine bV (dC a) ?_ (au aK) (bJ _);refine aP ?_;refine dz (ms:=[.s]) (hv:=d9) d8 B.len_ ?_;refine aC (aB 0) aG;refine aM ?_;refine fO ?_;refine dj 1 ?_;refine bh ?_ aG;refine dZ 2 ?_;refine bh aK ?_;refine bh aK aG;refine aL ?_ ?_;refine cD ?_ ?_ cL;refine bV (dC a) (aB 2) (au (cU [99,117,116])) (bJ _);refine aM ?_;refine fO ?_;refine dj 1 ?_;refine bh ?_ aG;refine dZ 2 ?_;refine bh aK ?_;refine bh ?_ aG;refine bL c (a.mono (by decide)) ?_;refine aC (aB 0) ?_;refine aC (au aK) ?_;refine aC (aB 1) aG
 refine aL ?_ ?_;refine cD ?_ ?_ cL;refine bV (dC a) (aB 2) (au (cU [101,118,101,110])) (bJ _);refine aM ?_;refine fO ?_;refine fc g (a.mono (by decide)) ?_;refine aC (aB 0) ?_;refine aC (aB 1) aG;refine aM ?_;refine fO ?_;refine fc d (a.mono (by decide)) ?_;refine aC (aB 0) ?_;refine aC (aB 1) ?_;refine aC (aB 2) aG
abbrev Fg:Stmt:=top 38
theorem Qpl:bB ["line","broad"] ["line","broad"] (aR Fg):=by trivial
def xf:MS :=
  (aV (mSl (aa 0) moN (moS (aH mU (aj (aa 0) (aj (mC (.int 0)) (aj (aa 1) aq)))))))
def xg:List D->ak->Res D:=bC 2 xf
abbrev Nh(Pr:Program)(w:World)(K:Frag)(mg:Str->Option Value)(base:Heap):Prop:=Can Pr w K mg base "shown_of" ["line","broad"] 3 (vSp K mg [.s,.s] (rV K) xg)
theorem Qpo(d:Def K mg "shown_of" Fg)
  (B:bM mg)
  (h:bD K=true)
  (a:uq Pr w K mg base):
  Nh Pr w K mg base:=by
 refine bW (k:=2) (b:=xf) d Qpl (λ_ _ _ _ _ _=>aQ λ_=>aQ λ_=>bO rfl) [.s,.s] [] b8 (λ_ _ _ _=>Rp.non) (body:=λf g A outer s H E c P=>?_);refine aM ?_;refine cg ?_;refine aX ?_;refine gh (aB 0) km ?_;refine d7 ?_;refine bL a (c.mono (by decide)) ?_;refine aC (aB 0) ?_;refine aC (au aK) ?_;refine aC (aB 1) aG
abbrev xj:Stmt:=top 39
theorem Ni:bB ["letters","room","stretches"] ["letters","room"] (aR xj):=by trivial
def xn:MS :=
  (aD (aF 2 (aH oM (aj (aa 0) (aj (ao gIx (aa 1) (mC (.int 4))) (aj (ao gIx (aa 1) (mC (.int 5))) aq)))))
  (aV (c7 (bY (aa 2)) 2 [0,1] (gw 2 (cM (mgN 0) (cM (mgN 1) ir))) cQ (aH xg (aj (mSl (aa 2) (moS (aa 0)) (moS (aa 1))) (aj (ao gIx (aa 3) (mC (.int 4))) aq))))))
def lq:List D->ak->Res D:=bC 3 xn
abbrev Fj(Pr:Program)(w:World)(K:Frag)(mg:Str->Option Value)(base:Heap):Prop:=Can Pr w K mg base "folded" ["letters","room"] 10 (vSp K mg [.s,.s] (rO K) lq)
theorem QrB(j:Def K mg "folded" xj)
  (B:bM mg)
  (m:bD K=true)
  (a:∃u,mg "BROAD" = some u/\RelV (.int 4) u)
  (h:∃u,mg "WAY" = some u/\RelV (.int 5) u)
  (g:Ng Pr w K mg base)
  (d:Nh Pr w K mg base):
  Fj Pr w K mg base:=by
 refine bW (k:=9) (b:=xn) j Ni (λ_ _ _ _ _ _=>aQ λ_=>aQ λ_=>bO rfl) [.s,.s] [.v] dD (λ_ _ _ _=>.inl ⟨rfl,Rp.non⟩) (body:=λf l A outer s H E c P=>?_);refine aL ?_ ?_;refine bf (i:=2) Ni.nd rfl (.inl rfl) ?_;refine aX ?_;refine fc g (c.mono (by decide)) ?_;refine aC (aB 0) ?_;refine aC ?_ ?_;refine au ?_;refine bR (aB 1) ?_;refine au ?_;refine nG a (λ_ _ _=>Rp.int);refine aC ?_ aG;refine au ?_;refine bR (aB 1) ?_;refine au ?_;refine nG h (λ_ _ _=>Rp.int);refine aM ?_;refine fO ?_;refine lU (aR xj) ["letters","room","stretches"] ["lo","hi"] [0,1] rfl ?_ (λ_ _ _ _ P=>?_) (λ_ _ _ _ P=>?_) (λ_ _ _ _ P=>?_)
 refine iU (au (aA 2));refine sW 2 rfl ?_;refine gb (bU (i:=0) (show(bF ["letters","room","stretches"] ["lo","hi"] [0,1]).Nodup by decide +kernel) rfl (.inl rfl)) ?_;refine gb (bU (i:=1) (show(bF ["letters","room","stretches"] ["lo","hi"] [0,1]).Nodup by decide +kernel) rfl (.inl rfl)) sV;exact iK;refine bL d (c.mono (by decide)) ?_;refine aC ?_ ?_;refine aP ?_;refine gh (aB 2) (d7 (aA 0)) (d7 (aA 1));refine aC ?_ aG;refine au ?_;refine bR (aB 3) ?_;refine au ?_;refine nG a (λ_ _ _=>Rp.int)
abbrev xu:Stmt:=top 40
theorem Fv:bB ["folds","letters","room","lines","part_lines"] ["folds","letters","room"] (aR xu):=by trivial
def xx:MS :=
  (aD (aF 3 (bI aq))
  (aD (cA (bY (aa 0)) (mgN 4) (iT 3 (aa 4)))
  (aD (bc (aJ (ao gGt (aY bT (aj (aa 1) aq)) (mC (.int 0)))) (iT 3 (aH lq (aj (aa 1) (aj (aa 2) aq)))) bj)
  (aV (c7 (bY (mSl (aa 3) (moS (mUn iM (ao gIx (aa 2) (mC (.int 3))))) moN)) 1 [] (mgN 0) cQ (mMl (aY gD (aj (aa 0) aq))))))))
def uF:List D->ak->Res D:=bC 5 xx
abbrev Nj(Pr:Program)(w:World)(K:Frag)(mg:Str->Option Value)(base:Heap):Prop:=Can Pr w K mg base "last_lines" ["folds","letters","room"] 11 (vSp K mg [.s,.s,.s] (rO K) uF)
theorem Qnf(g:Def K mg "last_lines" xu)
  (B:bM mg)
  (j:bD K=true)
  (c:∃u,mg "TALL" = some u/\RelV (.int 3) u)
  (a:Fj Pr w K mg base):
  Nj Pr w K mg base:=by
 refine bW (k:=10) (b:=xx) g Fv (λ_ _ _ _ _ _=>aQ λ_=>aQ λ_=>aQ λ_=>bO rfl) [.s,.s,.s] [.o,.v] dD (λ_ _ _ _=>.inl ⟨rfl,Rp.non⟩) (body:=λf h A outer s H E d P=>?_);refine aL ?_ ?_;refine il (i:=3) Fv.nd rfl (.inl rfl) (dj 0 aG);refine aL ?_ ?_;refine fH rfl (pR (Bf 0)) (bU (i:=4) Fv.nd rfl (.inl rfl)) ?_;refine aM ?_;refine Ky 3 (au (aA 4));refine aL ?_ ?_;refine cD ?_ ?_ cL;refine bV pG ?_ (au aK) (bJ _);refine aP ?_;refine dz (ms:=[.s]) (hv:=d9) d8 B.len_ ?_;refine aC (aB 1) aG;refine aM ?_;refine Ky 3 ?_;refine aP ?_;refine fc a (d.mono (by decide)) ?_
 refine aC (aB 1) ?_;refine aC (aB 2) aG;refine aM ?_;refine fO ?_;refine lU (aR xu) ["folds","letters","room","lines","part_lines"] ["line"] [] rfl ?_ (λ_ _ _ _ P=>?_) (λ_ _ _ _ P=>?_) (λ_ _ _ _ P=>?_);refine iU ?_;refine aP ?_;refine gh (aB 3) ?_ km;refine d7 ?_;refine aX ?_;refine tG ?_;refine au ?_;refine bR (aB 2) ?_;refine au ?_;refine nG c (λ_ _ _=>Rp.int);exact bU (i:=0) (show(bF ["folds","letters","room","lines","part_lines"] ["line"] []).Nodup by decide +kernel) rfl (.inl rfl);exact iK;refine Yy ?_;refine nT (ms:=[.s]) (hv:=nU) vK B.list_ ?_
 refine aC (au (aA 0)) aG
abbrev xA:Stmt:=top 41
theorem Nk:bB ["parts","letters","room","folds"] ["parts","letters","room"] (aR xA):=by trivial
def xB:MS :=
  (aD (aF 3 (c7 (bY (mSl (aa 0) (moS (mUn iM (ao gIx (aa 2) (mC (.int 3))))) moN)) 1 [2] (mgN 0) cQ (aH lq (aj (ao gIx (aa 0) (mC (.int 0))) (aj (aa 1) aq)))))
  (aV (aH uF (aj (aa 3) (aj (aa 1) (aj (aa 2) aq))))))
def qH:List D->ak->Res D:=bC 4 xB
abbrev Nm(Pr:Program)(w:World)(K:Frag)(mg:Str->Option Value)(base:Heap):Prop:=Can Pr w K mg base "lines_of" ["parts","letters","room"] 12 (vSp K mg [.s,.s,.s] (rO K) qH)
theorem Qpg(h:Def K mg "lines_of" xA)
  (B:bM mg)
  (l:bD K=true)
  (d:∃u,mg "TALL" = some u/\RelV (.int 3) u)
  (c:Fj Pr w K mg base)
  (g:Nj Pr w K mg base):
  Nm Pr w K mg base:=by
 refine bW (k:=11) (b:=xB) h Nk (λ_ _ _ _ _ _=>aQ λ_=>aQ λ_=>aQ λ_=>bO rfl) [.s,.s,.s] [.v] dD (λ_ _ _ _=>.inl ⟨rfl,Rp.non⟩) (body:=λf j A outer s H E a P=>?_);refine aL ?_ ?_;refine vI (i:=3) (aR xA) ["parts","letters","room","folds"] ["part"] [2] Nk.nd rfl (.inl rfl) rfl ?_ (λ_ _ _ _ P=>?_) (λ_ _ _ _ P=>?_) (λ_ _ _ _ P=>?_);refine iU ?_;refine aP ?_;refine gh (aB 0) ?_ km;refine d7 ?_;refine aX ?_;refine tG ?_;refine au ?_;refine bR (aB 2) ?_;refine au ?_;refine nG d (λ_ _ _=>Rp.int);exact bU (i:=0) (show(bF ["parts","letters","room","folds"] ["part"] [2]).Nodup by decide +kernel) rfl (.inl rfl)
 exact iK
 refine aX ?_;refine fc c (a.mono (by decide)) ?_;refine aC ?_ ?_;refine au ?_;refine bR (au (aA 0)) (au aK);refine aC (aB 1) aG;refine aM ?_;refine fO ?_;refine fc g (a.mono (by decide)) ?_;refine aC (au (aA 3)) ?_;refine aC (aB 1) ?_;refine aC (aB 2) aG
abbrev Fz:Stmt:=top 43
theorem Qmx:bB ["_law_script","_law_k"] ["_law_script","_law_k"] (aR Fz):=by trivial
def xC:MS :=
  (aD (bc (aJ (ao gLt (aa 1) (aY bT (aj (aa 0) aq)))) (aV (ao gIx (aa 0) (aa 1))) bj)
  (aV (mC (.int 0))))
def fV:List D->ak->Res D:=bC 2 xC
abbrev FJ(Pr:Program)(w:World)(K:Frag)(mg:Str->Option Value)(base:Heap):Prop:=Can Pr w K mg base "_law_cell_at" ["_law_script","_law_k"] 1 (vSp K mg [.s,.s] (rV K) fV)
theorem Qmt(a:Def K mg "_law_cell_at" Fz)
  (B:bM mg)
  (g:bD K=true):
  FJ Pr w K mg base:=by
 refine bW (k:=0) (b:=xC) a Qmx (λ_ _ _ _ _ _=>aQ λ_=>aQ λ_=>bO rfl) [.s,.s] [] b8 (λ_ _ _ _=>Rp.non) (body:=λf c A outer s H E d P=>?_);refine aL ?_ ?_;refine cD ?_ ?_ cL;refine bV nR (aB 1) ?_ (bJ _);refine aP ?_;refine dz (ms:=[.s]) (hv:=d9) d8 B.len_ ?_;refine aC (aB 0) aG;refine aM ?_;refine cg ?_;refine bR (aB 0) (aB 1);refine aM (cg aK)
abbrev FP:Stmt:=top 44
theorem oN:bB ["_law_cell","_law_k","_law_rest","_law_turn","_law_number"] ["_law_cell","_law_k"] (aR FP):=by trivial
def Np:MS :=
  (aD (bc (aJ (ao gGt (aa 0) (ao eX (mC (.int 10)) (mC (.int 18))))) (aD (aF 2 (mG (aa 0)))
  (aD (cA (gG (aj (aa 1) aq)) (mgN 3) (aF 2 (ao dG (aa 2) (ao eX (mC (.int 10)) (mC (.int 9))))))
  (aV (ao bH (aa 2) (ao eX (mC (.int 10)) (mC (.int 9))))))) bj)
  (aD (aF 4 (ao aZ (ao bH (aa 0) (mC (.int 2147483647))) (mC (.int 7919))))
  (aD (cA (gG (aj (ao aZ (aa 1) (mC (.int 2))) aq)) (mgN 3) (aF 4 (ao bH (ao aZ (ao fJ (aa 4) (mC (.int 48271))) (mC (.int 104729))) (mC (.int 2147483629)))))
  (aV (ao dG (ao bH (ao fJ (aa 4) (aa 4)) (mC (.int 998244353))) (mC (.int 11)))))))
def fj:List D->ak->Res D:=bC 5 Np
abbrev xD(Pr:Program)(w:World)(K:Frag)(mg:Str->Option Value)(base:Heap):Prop:=Can Pr w K mg base "_law_mix" ["_law_cell","_law_k"] 1 (vSp K mg [.s,.s] (rV K) fj)
theorem QqR(a:Def K mg "_law_mix" FP)
  (B:bM mg)
  (g:bD K=true):
  xD Pr w K mg base:=by
 refine bW (k:=0) (b:=Np) a oN (λ_ _ _ _ _ _=>aQ λ_=>aQ λ_=>bO rfl) [.s,.s] [.v,.v,.v] b8 (λ_ _ _ _=>Rp.non) (body:=λf c A outer s H E d P=>?_);refine aL ?_ ?_;refine cD ?_ ?_ cL;refine bV pG (aB 0) ?_ (bJ _);refine aP ?_;refine aW sZ (au aK) (au aK);refine aL ?_ ?_;refine bf (i:=2) oN.nd rfl (.inl rfl) (dF (aB 0));refine aL ?_ ?_;refine fH rfl ?_ (bU (i:=3) oN.nd rfl (.inl rfl)) ?_;refine tK B.range_ ?_;refine aC (aB 1) aG;refine aM ?_;refine bf (i:=2) oN.nd rfl (.inl rfl) ?_;refine aX ?_;refine aW j9 (au (aA 2)) ?_;refine aP ?_;refine aW sZ (au aK) (au aK)
 refine aM ?_;refine cg ?_;refine aX ?_;refine aW dN (au (aA 2)) ?_;refine aP ?_;refine aW sZ (au aK) (au aK);refine aL ?_ ?_;refine bf (i:=4) oN.nd rfl (.inl rfl) ?_;refine aX ?_;refine aW cX ?_ (au aK);refine aP ?_;refine aW dN (aB 0) (au aK);refine aL ?_ ?_;refine fH rfl ?_ (bU (i:=3) oN.nd rfl (.inl rfl)) ?_;refine tK B.range_ ?_;refine aC ?_ aG;refine aP ?_;refine aW cX (aB 1) (au aK);refine aM ?_;refine bf (i:=4) oN.nd rfl (.inl rfl) ?_;refine aX ?_;refine aW dN ?_ (au aK);refine aP ?_;refine aW cX ?_ (au aK);refine aP ?_;refine aW Bb (au (aA 4)) (au aK)
 refine aM ?_;refine cg ?_;refine aX ?_;refine aW j9 ?_ (au aK);refine aP ?_;refine aW dN ?_ (au aK);refine aP ?_;refine aW Bb (au (aA 4)) (au (aA 4))
abbrev FT:Stmt:=top 45
theorem uG:bB ["_law_cell","_law_many_here","_law_k","_law_letters_here","_law_at","_law_mix_here","_law_sign"] ["_law_cell","_law_many_here","_law_k"] (aR FT):=by trivial
def xE:MS :=
  (aD (aF 3 (bI aq))
  (aD (cA (gG (aj (aa 1) aq)) (mgN 4) (aD (aF 5 (aH fj (aj (aa 0) (aj (ao aZ (aa 2) (aa 4)) aq))))
  (aD (aF 6 (ao gIx (mC (.str [97,98,32,120,65,32,32,66,90,99,32,91])) (ao bH (aa 5) (mC (.int 12)))))
  (dq 3 (cG (aj (aa 6) (aj (ao gIx (mC (.str [97,98,46])) (ao bH (ao dG (aa 5) (mC (.int 12))) (mC (.int 3)))) (aj (ao gIx (mC (.str [104,46])) (ao bH (ao dG (aa 5) (mC (.int 36))) (mC (.int 2)))) (aj (ao aZ (ao fJ (mC (.int 7)) (aa 4)) (ao bH (ao dG (aa 5) (mC (.int 72))) (mC (.int 7)))) aq)))))))))
  (aV (aa 3))))
def oO:List D->ak->Res D:=bC 7 xE
abbrev FW(Pr:Program)(w:World)(K:Frag)(mg:Str->Option Value)(base:Heap):Prop:=Can Pr w K mg base "_law_letters" ["_law_cell","_law_many_here","_law_k"] 2 (vSp K mg [.s,.s,.s] (rO K) oO)
theorem Ql9(d:Def K mg "_law_letters" FT)
  (B:bM mg)
  (h:bD K=true)
  (a:xD Pr w K mg base):
  FW Pr w K mg base:=by
 refine bW (k:=1) (b:=xE) d uG (λ_ _ _ _ _ _=>aQ λ_=>aQ λ_=>aQ λ_=>bO rfl) [.s,.s,.s] [.o,.v,.v,.v] dD (λ_ _ _ _=>.inl ⟨rfl,Rp.non⟩) (body:=λf g A outer s H E c P=>?_);refine aL ?_ ?_;refine il (i:=3) uG.nd rfl (.inl rfl) (dj 0 aG);refine aL ?_ (aM (nO 3));refine fH rfl ?_ (bU (i:=4) uG.nd rfl (.inl rfl)) ?_;refine tK B.range_ ?_;refine aC (aB 1) aG;refine aL ?_ ?_;refine bf (i:=5) uG.nd rfl (.inl rfl) ?_;refine bL a (c.mono (by decide)) ?_;refine aC (aB 0) ?_;refine aC ?_ aG;refine aP ?_;refine aW cX (aB 2) (au (aA 4));refine aL ?_ ?_
 refine bf (i:=6) uG.nd rfl (.inl rfl) ?_;refine bR (au (cU [97,98,32,120,65,32,32,66,90,99,32,91])) ?_;refine aP ?_;refine aW dN (au (aA 5)) (au aK);refine aM ?_;refine lY 3 ?_;refine dZ 4 ?_;refine bh (aA 6) ?_;refine bh ?_ ?_;refine bR (au (cU [97,98,46])) ?_;refine aP ?_;refine aW dN ?_ (au aK);refine aP ?_;refine aW j9 (au (aA 5)) (au aK);refine bh ?_ ?_;refine bR (au (cU [104,46])) ?_;refine aP ?_;refine aW dN ?_ (au aK);refine aP ?_;refine aW j9 (au (aA 5)) (au aK);refine bh ?_ aG;refine aX ?_;refine aW cX ?_ ?_;refine aP ?_;refine aW Bb (au aK) (au (aA 4))
 refine aP ?_;refine aW dN ?_ (au aK);refine aP ?_;refine aW j9 (au (aA 5)) (au aK)
abbrev Ga:Stmt:=top 46
theorem uH:bB ["_law_script","_law_most","_law_parts_here","_law_k","_law_cell","_law_word"] ["_law_script","_law_most"] (aR Ga):=by trivial
def xF:MS :=
  (aD (aF 2 (bI aq))
  (aD (cA (gG (aj (ao bH (aH fV (aj (aa 0) (aj (mC (.int 2)) aq))) (mC (.int 5))) aq)) (mgN 3) (aD (aF 4 (aH fV (aj (aa 0) (aj (ao aZ (mC (.int 4)) (aa 3)) aq))))
  (aD (aF 5 (ao gIx (bI (aj (mC (.str [119,104,111,108,101])) (aj (mC (.str [109,111,114,101])) aq))) (ao bH (aH fj (aj (aa 4) (aj (mC (.int 9)) aq))) (mC (.int 2)))))
  (dq 2 (cG (aj (aH oO (aj (aa 4) (aj (ao bH (aH fj (aj (aa 4) (aj (mC (.int 10)) aq))) (ao aZ (aa 1) (mC (.int 1)))) (aj (mC (.int 12)) aq)))) (aj (aa 5) aq)))))))
  (aV (aa 2))))
def xG:List D->ak->Res D:=bC 6 xF
abbrev Nq(Pr:Program)(w:World)(K:Frag)(mg:Str->Option Value)(base:Heap):Prop:=Can Pr w K mg base "_law_parts" ["_law_script","_law_most"] 3 (vSp K mg [.s,.s] (rO K) xG)
theorem Qoq(h:Def K mg "_law_parts" Ga)
  (B:bM mg)
  (l:bD K=true)
  (c:FJ Pr w K mg base)
  (d:xD Pr w K mg base)
  (g:FW Pr w K mg base):
  Nq Pr w K mg base:=by
 refine bW (k:=2) (b:=xF) h uH (λ_ _ _ _ _ _=>aQ λ_=>aQ λ_=>bO rfl) [.s,.s] [.o,.v,.v,.v] dD (λ_ _ _ _=>.inl ⟨rfl,Rp.non⟩) (body:=λf j A outer s H E a P=>?_);refine aL ?_ ?_;refine il (i:=2) uH.nd rfl (.inl rfl) (dj 0 aG);refine aL ?_ (aM (nO 2));refine fH rfl ?_ (bU (i:=3) uH.nd rfl (.inl rfl)) ?_;refine tK B.range_ ?_;refine aC ?_ aG;refine aP ?_;refine aW dN ?_ (au aK);refine au ?_;refine bL c (a.mono (by decide)) ?_;refine aC (aB 0) ?_;refine aC (au aK) aG;refine aL ?_ ?_;refine bf (i:=4) uH.nd rfl (.inl rfl) ?_;refine bL c (a.mono (by decide)) ?_
 refine aC (aB 0) ?_;refine aC ?_ aG;refine aP ?_;refine aW cX (au aK) (au (aA 3));refine aL ?_ ?_;refine bf (i:=5) uH.nd rfl (.inl rfl) ?_;refine bR ?_ ?_;refine aP ?_;refine dj 2 ?_;refine bh (cU [119,104,111,108,101]) ?_;refine bh (cU [109,111,114,101]) aG;refine aP ?_;refine aW dN ?_ (au aK);refine au ?_;refine bL d (a.mono (by decide)) ?_;refine aC (au (aA 4)) ?_;refine aC (au aK) aG;refine aM ?_;refine lY 2 ?_;refine dZ 2 ?_;refine bh ?_ ?_;refine aX ?_;refine fc g (a.mono (by decide)) ?_;refine aC (au (aA 4)) ?_;refine aC ?_ ?_;refine aP ?_
 refine aW dN ?_ ?_;refine au ?_;refine bL d (a.mono (by decide)) ?_;refine aC (au (aA 4)) ?_;refine aC (au aK) aG;refine aP ?_;refine aW cX (aB 1) (au aK);refine aC (au aK) aG;refine bh (aA 5) aG
abbrev xH:Stmt:=top 47
theorem QnE:bB ["_law_letters_here"] ["_law_letters_here"] (aR xH):=by trivial
def xJ:MS :=
  (aV (aY pK (aj (c7 (bY (aa 0)) 1 [] (mgN 0) cQ (ao aZ (mC (.int 1)) (aY pJ (aj (j7 gLe gLe (mC (.str [65])) (ao gIx (aa 0) (mC (.int 0))) (mC (.str [90]))) aq)))) aq)))
def uI:List D->ak->Res D:=bC 1 xJ
abbrev Gd(Pr:Program)(w:World)(K:Frag)(mg:Str->Option Value)(base:Heap):Prop:=Can Pr w K mg base "_law_cells" ["_law_letters_here"] 1 (vSp K mg [.s] (rV K) uI)
theorem Qog(a:Def K mg "_law_cells" xH)
  (B:bM mg)
  (g:bD K=true):
  Gd Pr w K mg base:=by
 refine bW (k:=0) (b:=xJ) a QnE (λ_ _ _ _ _ _=>aQ λ_=>bO rfl) [.s] [] b8 (λ_ _ _ _=>Rp.non) (body:=λf c A outer s H E d P=>?_);refine aM ?_;refine cg ?_;refine aX ?_;refine dz (ms:=[.s]) (hv:=Km) (Kh rfl) B.sum_ ?_;refine aC ?_ aG;refine aP ?_;refine lU (aR xH) ["_law_letters_here"] ["_law_letter"] [] rfl (iU (aB 0)) (λ_ _ _ _ P=>?_) (λ_ _ _ _ P=>?_) (λ_ _ _ _ P=>?_);exact bU (i:=0) (show(bF ["_law_letters_here"] ["_law_letter"] []).Nodup by decide +kernel) rfl (.inl rfl);exact iK;refine aX ?_;refine aW cX (au aK) ?_;refine aP ?_;refine nT (ms:=[.s]) (hv:=Bc) XX B.int_ ?_
 refine aC ?_ aG;refine aP ?_;refine JV jH jH (au (cU [65])) ?_ (au (cU [90]));refine au ?_;refine bR (au (aA 0)) (au aK)
abbrev Gf:Stmt:=top 48
theorem Gg:bB ["_law_letters_here","_law_many_here"] ["_law_letters_here"] (aR Gf):=by trivial
def xK:MS :=
  (aD (aF 1 (aY bT (aj (aa 0) aq)))
  (aD (gf wF (eV (aJ (ao gGt (aa 1) (mC (.int 0)))) (aJ (ao gEq (ao gIx (ao gIx (aa 0) (ao dB (aa 1) (mC (.int 1)))) (mC (.int 0))) (mC (.str [32]))))) (aF 1 (ao dB (aa 1) (mC (.int 1)))))
  (aV (aH uI (aj (mSl (aa 0) moN (moS (aa 1))) aq)))))
def jR:List D->ak->Res D:=bC 2 xK
abbrev Gh(Pr:Program)(w:World)(K:Frag)(mg:Str->Option Value)(base:Heap):Prop:=Can Pr w K mg base "_law_bare" ["_law_letters_here"] 2 (vSp K mg [.s] (rV K) jR)
theorem Qpy(d:Def K mg "_law_bare" Gf)
  (B:bM mg)
  (h:bD K=true)
  (c:Gd Pr w K mg base):
  Gh Pr w K mg base:=by
 refine bW (k:=1) (b:=xK) d Gg (λ_ _ _ _ _ _=>aQ λ_=>bO rfl) [.s] [.v] b8 (λ_ _ _ _=>Rp.non) (body:=λf g A outer s H E a P=>?_);refine aL ?_ ?_;refine bf (i:=1) Gg.nd rfl (.inl rfl) ?_;refine aX ?_;refine dz (ms:=[.s]) (hv:=d9) d8 B.len_ ?_;refine aC (aB 0) aG;refine aL ?_ ?_;refine nQ wF ?_ ?_;refine jG ?_;refine sS ?_ ?_;refine bV pG (au (aA 1)) (au aK) (bJ _);refine sJ ?_;refine bV (dC a) ?_ (au (cU [32])) (bJ _);refine au ?_;refine bR ?_ (au aK);refine au ?_;refine bR (aB 0) ?_;refine aP ?_;refine aW j8 (au (aA 1)) (au aK);refine aM ?_
 refine bf (i:=1) Gg.nd rfl (.inl rfl) ?_;refine aX ?_;refine aW j8 (au (aA 1)) (au aK);refine aM ?_;refine cg ?_;refine bL c (a.mono (by decide)) ?_;refine aC ?_ aG;refine aP ?_;refine gh (aB 0) km (d7 (aA 1))
abbrev Gj:Stmt:=top 49
theorem Gk:bB ["_law_letters_here","_law_wide","_law_many_here"] ["_law_letters_here","_law_wide"] (aR Gj):=by trivial
def xN:MS :=
  (aD (aF 2 (mC (.int 0)))
  (aD (gf wF (eV (aJ (ao gLt (aa 2) (aY bT (aj (aa 0) aq)))) (aJ (ao gLe (aH uI (aj (mSl (aa 0) moN (moS (ao aZ (aa 2) (mC (.int 1))))) aq)) (aa 1)))) (aF 2 (ao aZ (aa 2) (mC (.int 1)))))
  (aV (aa 2))))
def iH:List D->ak->Res D:=bC 3 xN
abbrev xO(Pr:Program)(w:World)(K:Frag)(mg:Str->Option Value)(base:Heap):Prop:=Can Pr w K mg base "_law_many" ["_law_letters_here","_law_wide"] 2 (vSp K mg [.s,.s] (rV K) iH)
theorem Qpm(d:Def K mg "_law_many" Gj)
  (B:bM mg)
  (h:bD K=true)
  (a:Gd Pr w K mg base):
  xO Pr w K mg base:=by
 refine bW (k:=1) (b:=xN) d Gk (λ_ _ _ _ _ _=>aQ λ_=>aQ λ_=>bO rfl) [.s,.s] [.v] b8 (λ_ _ _ _=>Rp.non) (body:=λf g A outer s H E c P=>?_);refine aL (bf (i:=2) Gk.nd rfl (.inl rfl) aK) ?_;refine aL ?_ ?_;refine nQ wF ?_ ?_;refine jG ?_;refine sS ?_ ?_;refine bV nR (au (aA 2)) ?_ (bJ _);refine aP ?_;refine dz (ms:=[.s]) (hv:=d9) d8 B.len_ ?_;refine aC (aB 0) aG;refine sJ ?_;refine bV jH ?_ (aB 1) (bJ _);refine au ?_;refine bL a (c.mono (by decide)) ?_;refine aC ?_ aG;refine aP ?_;refine gh (aB 0) km ?_;refine d7 ?_;refine aX ?_;refine aW cX (au (aA 2)) (au aK)
 refine aM ?_;refine bf (i:=2) Gk.nd rfl (.inl rfl) ?_;refine aX ?_;refine aW cX (au (aA 2)) (au aK);refine aM (cg (aA 2))
abbrev Gn:Stmt:=top 50
theorem qK:bB ["_law_letters_here","_law_lo","_law_wide","_law_found","_law_hi","_law_ends","_law_cells_here"] ["_law_letters_here","_law_lo","_law_wide"] (aR Gn):=by trivial
def xP:MS :=
  (aD (aF 3 (bI aq))
  (aD (cA (lX (aj (ao aZ (aa 1) (mC (.int 1))) (aj (ao aZ (aY bT (aj (aa 0) aq)) (mC (.int 1))) aq))) (mgN 4) (aD (aF 5 (nJ (ao gEq (aa 4) (aY bT (aj (aa 0) aq))) (ik (ao gEq (ao gIx (ao gIx (aa 0) (ao dB (aa 4) (mC (.int 1)))) (mC (.int 0))) (mC (.str [32]))) (ao gNe (ao gIx (ao gIx (aa 0) (aa 4)) (mC (.int 0))) (mC (.str [32]))))))
  (aD (aF 6 (aH jR (aj (mSl (aa 0) (moS (mG (aa 1))) (moS (aa 4))) aq)))
  (aD (bc (eV (cz (aa 5)) (aJ (ao gLe (aa 6) (aa 2)))) (dq 3 (aa 4)) bj)
  (bc (aJ (ao gGt (aa 6) (aa 2))) pF bj)))))
  (aD (bc (aJ (ao gEq (aa 3) (bI aq))) (aF 3 (bI (aj (ao aZ (aa 1) (aH iH (aj (mSl (aa 0) (moS (mG (aa 1))) moN) (aj (aa 2) aq)))) aq))) bj)
  (aV (aa 3)))))
def lu:List D->ak->Res D:=bC 7 xP
abbrev Gp(Pr:Program)(w:World)(K:Frag)(mg:Str->Option Value)(base:Heap):Prop:=Can Pr w K mg base "_law_onward" ["_law_letters_here","_law_lo","_law_wide"] 3 (vSp K mg [.s,.s,.s] (rO K) lu)
theorem Qne(g:Def K mg "_law_onward" Gn)
  (B:bM mg)
  (j:bD K=true)
  (c:Gh Pr w K mg base)
  (d:xO Pr w K mg base):
  Gp Pr w K mg base:=by
 refine bW (k:=2) (b:=xP) g qK (λ_ _ _ _ _ _=>aQ λ_=>aQ λ_=>aQ λ_=>bO rfl) [.s,.s,.s] [.o,.v,.v,.v] dD (λ_ _ _ _=>.inl ⟨rfl,Rp.non⟩) (body:=λf h A outer s H E a P=>?_);refine aL ?_ ?_;refine il (i:=3) qK.nd rfl (.inl rfl) (dj 0 aG);refine aL ?_ ?_;refine fH rfl ?_ (bU (i:=4) qK.nd rfl (.inl rfl)) ?_;refine Kw B.range_ ?_;refine aC ?_ ?_;refine aP ?_;refine aW cX (aB 1) (au aK);refine aC ?_ aG;refine aP ?_;refine aW cX ?_ (au aK);refine aP ?_;refine dz (ms:=[.s]) (hv:=d9) d8 B.len_ ?_;refine aC (aB 0) aG;refine aL ?_ ?_;refine bf (i:=5) qK.nd rfl (.inl rfl) ?_
 refine Xi ?_ ?_;refine aX ?_;refine j6 (dC a) (au (aA 4)) ?_ (bJ _);refine aP ?_;refine dz (ms:=[.s]) (hv:=d9) d8 B.len_ ?_;refine aC (aB 0) aG;refine nM ?_;refine pD ?_ ?_;refine aX ?_;refine j6 (dC a) ?_ (au (cU [32])) (bJ _);refine au ?_;refine bR ?_ (au aK);refine au ?_;refine bR (aB 0) ?_;refine aP ?_;refine aW j8 (au (aA 4)) (au aK);refine nM ?_;refine aX ?_;refine j6 (pH a) ?_ (au (cU [32])) (bJ _);refine au ?_;refine bR ?_ (au aK);refine au ?_;refine bR (aB 0) (au (aA 4));refine aL ?_ ?_;refine bf (i:=6) qK.nd rfl (.inl rfl) ?_
 refine bL c (a.mono (by decide)) ?_;refine aC ?_ aG;refine aP ?_;refine gh (aB 0) ?_ (d7 (aA 4));refine d7 (dF (aB 1));refine aL ?_ ?_;refine cD ?_ ?_ cL;refine jG ?_;refine sS ?_ ?_;refine ig (au (aA 5));refine sJ ?_;refine bV jH (au (aA 6)) (aB 2) (bJ _);refine aM (lY 3 (aA 4));refine aM ?_;refine cD ?_ (aM J0) cL;refine bV pG (au (aA 6)) (aB 2) (bJ _);refine aL ?_ (aM (nO 3));refine cD ?_ ?_ cL;refine bV (dC a) (aB 3) ?_ (bJ _);refine aP (dj 0 aG);refine aM ?_;refine il (i:=3) qK.nd rfl (.inl rfl) ?_;refine dj 1 ?_;refine bh ?_ aG
 refine aX ?_;refine aW cX (aB 1) ?_;refine au ?_;refine bL d (a.mono (by decide)) ?_;refine aC ?_ ?_;refine aP ?_;refine gh (aB 0) ?_ km;refine d7 (dF (aB 1));refine aC (aB 2) aG
abbrev Gs:Stmt:=top 51
theorem lz:bB ["_law_letters_here","_law_wide","_law_many_here","_law_costs","_law_onward_here","_law_back","_law_lo","_law_hi","_law_cost"] ["_law_letters_here","_law_wide"] (aR Gs):=by trivial
def xQ:MS :=
  (aD (aF 2 (aY bT (aj (aa 0) aq)))
  (aD (aF 3 (vV 2 0))
  (aD (aF 4 n6)
  (aD (cA (gG (aj (aa 2) aq)) (mgN 5) (aD (aF 6 (ao dB (ao dB (aa 2) (mC (.int 1))) (aa 5)))
  (cA (bY (aH lu (aj (aa 0) (aj (aa 6) (aj (aa 1) aq))))) (mgN 7) (aD (aF 8 (iY (aa 3) (aa 7)))
  (aD (bc (aJ (ao gLt (aa 7) (aa 2))) (aF 8 (ao aZ (aa 8) (ao eX (ao dB (aa 1) (aH jR (aj (mSl (aa 0) (moS (aa 6)) (moS (aa 7))) aq))) (mC (.int 2))))) bj)
  (bc (dJ (aJ (n8 true (aa 6) (aa 3))) (aJ (ao gLe (aa 8) (iY (aa 3) (aa 6))))) (aD (mH (aa 3) (aa 6) (aa 8))
  (mH (aa 4) (aa 6) (aa 7))) bj))))))
  (aV (aa 4))))))
def qM:List D->ak->Res D:=bC 9 xQ
abbrev Nr(Pr:Program)(w:World)(K:Frag)(mg:Str->Option Value)(base:Heap):Prop:=Can Pr w K mg base "_law_evenly" ["_law_letters_here","_law_wide"] 4 (vSp K mg [.s,.s] (rV K) qM)
theorem Qnb(g:Def K mg "_law_evenly" Gs)
  (B:bM mg)
  (j:bD K=true)
  (c:Gp Pr w K mg base)
  (d:Gh Pr w K mg base):
  Nr Pr w K mg base:=by
 refine bW (k:=3) (b:=xQ) g lz (λ_ _ _ _ _ _=>aQ λ_=>aQ λ_=>bO rfl) [.s,.s] [.v,.v,.v,.v,.v,.v,.v] b8 (λ_ _ _ _=>Rp.non) (body:=λf h A outer s H E a P=>?_);refine aL ?_ ?_;refine bf (i:=2) lz.nd rfl (.inl rfl) ?_;refine aX ?_;refine dz (ms:=[.s]) (hv:=d9) d8 B.len_ ?_;refine aC (aB 0) aG;refine aL (bf (i:=3) lz.nd rfl (.inl rfl) (Zy 2 H9)) ?_;refine aL (bf (i:=4) lz.nd rfl (.inl rfl) Lf) ?_;refine aL ?_ ?_;refine fH rfl ?_ (bU (i:=5) lz.nd rfl (.inl rfl)) ?_;refine tK B.range_ ?_;refine aC (au (aA 2)) aG;refine aL ?_ ?_;refine bf (i:=6) lz.nd rfl (.inl rfl) ?_
 refine aX ?_;refine aW j8 ?_ (au (aA 5));refine aP ?_;refine aW j8 (au (aA 2)) (au aK);refine aM ?_;refine fH rfl ?_ (bU (i:=7) lz.nd rfl (.inl rfl)) ?_;refine pR ?_;refine pN ?_;refine aX ?_;refine fc c (a.mono (by decide)) ?_;refine aC (aB 0) ?_;refine aC (au (aA 6)) ?_;refine aC (aB 1) aG;refine aL ?_ ?_;refine bf (i:=8) lz.nd rfl (.inl rfl) ?_;refine Bu a (aA 3) (aA 7);refine aL ?_ ?_;refine cD ?_ ?_ cL;refine bV nR (au (aA 7)) (au (aA 2)) (bJ _);refine aM ?_;refine bf (i:=8) lz.nd rfl (.inl rfl) ?_;refine aX ?_;refine aW cX (au (aA 8)) ?_
 refine aP ?_;refine aW sZ ?_ (au aK);refine aP ?_;refine aW j8 (aB 1) ?_;refine au ?_;refine bL d (a.mono (by decide)) ?_;refine aC ?_ aG;refine aP ?_;refine gh (aB 0) (d7 (aA 6)) (d7 (aA 7));refine aM ?_;refine cD ?_ ?_ cL;refine jG ?_;refine pC ?_ ?_;refine Zx a (aA 6) (aA 3);refine sO ?_;refine bV jH (au (aA 8)) ?_ (bJ _);refine au ?_;refine Bu a (aA 3) (aA 6);refine aL ?_ ?_;refine Lg a (aA 3) (aA 6) (aA 8);refine aM ?_;refine Lg a (aA 4) (aA 6) (aA 7);refine aM (cg (aA 4))
abbrev Gv:Stmt:=top 52
theorem lA:bB ["_law_letters_here","_law_wide","_law_way","_law_onward_here","_law_found","_law_lo","_law_hi"] ["_law_letters_here","_law_wide","_law_way"] (aR Gv):=by trivial
def uJ:MS :=
  (aD (bc (dJ (aJ (ao gEq (aa 0) (bI aq))) (aJ (ao gEq (aa 2) (mC (.str [99,117,116]))))) (aV (bI (aj (cG (aj (mC (.int 0)) (aj (aH iH (aj (aa 0) (aj (aa 1) aq))) aq))) aq))) bj)
  (aD (aF 3 n6)
  (aD (bc (aJ (ao gEq (aa 2) (mC (.str [101,118,101,110])))) (aF 3 (aH qM (aj (aa 0) (aj (aa 1) aq)))) bj)
  (aD (aF 4 (bI aq))
  (aD (aF 5 (mC (.int 0)))
  (aD (gf wF (aJ (ao gLt (aa 5) (aY bT (aj (aa 0) aq)))) (aD (bc (aJ (ao gEq (aa 2) (mC (.str [99,101,108,108,115])))) (aF 6 (ao aZ (aa 5) (aH iH (aj (mSl (aa 0) (moS (aa 5)) moN) (aj (aa 1) aq))))) (bc (aJ (ao gEq (aa 2) (mC (.str [119,111,114,100,115])))) (aF 6 (aY pZ (aj (aH lu (aj (aa 0) (aj (aa 5) (aj (aa 1) aq)))) aq))) (aF 6 (iY (aa 3) (aa 5)))))
  (aD (dq 4 (cG (aj (aa 5) (aj (aa 6) aq))))
  (aF 5 (aa 6)))))
  (aV (aa 4))))))))
def lB:List D->ak->Res D:=bC 7 uJ
abbrev Nt(Pr:Program)(w:World)(K:Frag)(mg:Str->Option Value)(base:Heap):Prop:=Can Pr w K mg base "_law_stretches" ["_law_letters_here","_law_wide","_law_way"] 5 (vSp K mg [.s,.s,.s] (rO K) lB)
theorem Qlf(h:Def K mg "_law_stretches" Gv)
  (B:bM mg)
  (l:bD K=true)
  (c:xO Pr w K mg base)
  (g:Nr Pr w K mg base)
  (d:Gp Pr w K mg base):
  Nt Pr w K mg base:=by
 refine bW (k:=4) (b:=uJ) h lA (λ_ _ _ _ _ _=>aQ λ_=>aQ λ_=>aQ λ_=>bO rfl) [.s,.s,.s] [.v,.o,.v,.v] dD (λ_ _ _ _=>.inl ⟨rfl,Rp.non⟩) (body:=λf j A outer s H E a P=>?_);refine aL ?_ ?_;refine cD ?_ ?_ cL;refine jG ?_;refine pC ?_ ?_;refine bV (dC a) (aB 0) ?_ (bJ _);refine aP (dj 0 aG);refine sO ?_;refine bV (dC a) (aB 2) (au (cU [99,117,116])) (bJ _);refine aM ?_;refine fO ?_;refine dj 1 ?_;refine bh ?_ aG;refine dZ 2 ?_;refine bh aK ?_;refine bh ?_ aG;refine bL c (a.mono (by decide)) ?_;refine aC (aB 0) ?_;refine aC (aB 1) aG
 refine aL (bf (i:=3) lA.nd rfl (.inl rfl) Lf) ?_;refine aL ?_ ?_;refine cD ?_ ?_ cL;refine bV (dC a) (aB 2) (au (cU [101,118,101,110])) (bJ _);refine aM ?_;refine bf (i:=3) lA.nd rfl (.inl rfl) ?_;refine bL g (a.mono (by decide)) ?_;refine aC (aB 0) ?_;refine aC (aB 1) aG;refine aL ?_ ?_;refine il (i:=4) lA.nd rfl (.inl rfl) (dj 0 aG);refine aL (bf (i:=5) lA.nd rfl (.inl rfl) aK) ?_;refine aL ?_ (aM (nO 4));refine nQ wF ?_ ?_;refine bV nR (au (aA 5)) ?_ (bJ _);refine aP ?_;refine dz (ms:=[.s]) (hv:=d9) d8 B.len_ ?_;refine aC (aB 0) aG;refine aL ?_ ?_
 refine cD ?_ ?_ ?_;refine bV (dC a) (aB 2) (au (cU [99,101,108,108,115])) (bJ _);refine aM ?_;refine bf (i:=6) lA.nd rfl (.inl rfl) ?_;refine aX ?_;refine aW cX (au (aA 5)) ?_;refine au ?_;refine bL c (a.mono (by decide)) ?_;refine aC ?_ ?_;refine aP ?_;refine gh (aB 0) (d7 (aA 5)) km;refine aC (aB 1) aG;refine aM ?_;refine cD ?_ ?_ ?_;refine bV (dC a) (aB 2) (au (cU [119,111,114,100,115])) (bJ _);refine aM ?_;refine bf (i:=6) lA.nd rfl (.inl rfl) ?_;refine aX ?_;refine dz (ms:=[.s]) (hv:=Kl) (ZC rfl) B.max_ ?_;refine aC ?_ aG;refine aP ?_;refine fc d (a.mono (by decide)) ?_
 refine aC (aB 0) ?_;refine aC (au (aA 5)) ?_;refine aC (aB 1) aG;refine aM ?_;refine bf (i:=6) lA.nd rfl (.inl rfl) ?_;refine Bu a (aA 3) (aA 5);refine aL ?_ ?_;refine lY 4 ?_;refine dZ 2 ?_;refine bh (aA 5) ?_;refine bh (aA 6) aG;refine aM (bf (i:=5) lA.nd rfl (.inl rfl) (aA 6))
abbrev xR:Stmt:=top 53
theorem gm:bB ["_law_parts_here","_law_row","_law_room_here","_law_name","_law_top","_law_left","_law_tall","_law_broad","_law_way","_law_some","_law_lines_here","_law_letters_here","_law_lo","_law_hi","_law_line"] ["_law_parts_here","_law_row","_law_room_here"] (aR xR):=by trivial
def xT:MS :=
  (aD (sX (mG (aa 2)) (gw 6 (cM (mgN 3) (cM (mgN 4) (cM (mgN 5) (cM (mgN 6) (cM (mgN 7) (cM (mgN 8) ir))))))))
  (aD (aF 9 (c7 (bY (aa 0)) 1 [] (mgN 0) cQ (ao gIx (aa 0) (mC (.int 0)))))
  (aD (bc (aJ (ao gNe (aa 1) (bI aq))) (aF 9 (ao aZ (aa 9) (bI (aj (aa 1) aq)))) bj)
  (aD (aF 10 (bI aq))
  (aD (cA (bY (aa 9)) (mgN 11) (cA (bY (aH lB (aj (aa 11) (aj (aa 7) (aj (aa 8) aq))))) (gw 2 (cM (mgN 12) (cM (mgN 13) ir))) (aD (aF 14 (mSl (aa 11) (moS (aa 12)) (moS (aa 13))))
  (dq 10 (mSl (aa 14) moN (moS (aH iH (aj (aa 14) (aj (aa 7) aq)))))))))
  (aV (mSl (aa 10) (moS (aY pI (aj (mC (.int 0)) (aj (ao dB (aY bT (aj (aa 10) aq)) (aa 6)) aq)))) moN)))))))
def mW:List D->ak->Res D:=bC 15 xT
abbrev Nu(Pr:Program)(w:World)(K:Frag)(mg:Str->Option Value)(base:Heap):Prop:=Can Pr w K mg base "_law_lines" ["_law_parts_here","_law_row","_law_room_here"] 6 (vSp K mg [.s,.v,.s] (rV K) mW)
theorem Qo4(g:Def K mg "_law_lines" xR)
  (B:bM mg)
  (j:bD K=true)
  (d:Nt Pr w K mg base)
  (c:xO Pr w K mg base):
  Nu Pr w K mg base:=by
 refine bW (k:=5) (b:=xT) g gm (λ_ _ _ _ _ _=>aQ λ_=>aQ λ_=>aQ λ_=>bO rfl) [.s,.v,.s] [.v,.v,.v,.v,.v,.v,.v,.o,.v,.v,.v,.v] b8 (λ_ _ _ _=>Rp.non) (body:=λf h A outer s H E a P=>?_);refine aL ?_ ?_;refine Xo (dF (aB 2)) ?_;refine sW 6 rfl ?_;refine gb (bU (i:=3) gm.nd rfl (.inl rfl)) ?_;refine gb (bU (i:=4) gm.nd rfl (.inl rfl)) ?_;refine gb (bU (i:=5) gm.nd rfl (.inl rfl)) ?_;refine gb (bU (i:=6) gm.nd rfl (.inl rfl)) ?_;refine gb (bU (i:=7) gm.nd rfl (.inl rfl)) ?_;refine gb (bU (i:=8) gm.nd rfl (.inl rfl)) sV;refine aL ?_ ?_;refine vI (i:=9) (aR xR) ["_law_parts_here","_law_row","_law_room_here","_law_name","_law_top","_law_left","_law_tall","_law_broad","_law_way","_law_some","_law_lines_here","_law_letters_here","_law_lo","_law_hi","_law_line"] ["_law_part"] [] gm.nd rfl (.inl rfl) rfl (iU (aB 0)) (λ_ _ _ _ P=>?_) (λ_ _ _ _ P=>?_) (λ_ _ _ _ P=>?_)
 exact bU (i:=0) (show(bF ["_law_parts_here","_law_row","_law_room_here","_law_name","_law_top","_law_left","_law_tall","_law_broad","_law_way","_law_some","_law_lines_here","_law_letters_here","_law_lo","_law_hi","_law_line"] ["_law_part"] []).Nodup by decide +kernel) rfl (.inl rfl)
 exact iK
 refine bR (au (aA 0)) (au aK);refine aL ?_ ?_;refine cD ?_ ?_ cL;refine bV (pH a) (au (aA 1)) ?_ (bJ _);refine aP (dj 0 aG);refine aM ?_;refine bf (i:=9) gm.nd rfl (.inl rfl) ?_;refine aX ?_;refine aW cX (au (aA 9)) ?_;refine aP ?_;refine dj 1 ?_;refine bh (aA 1) aG;refine aL ?_ ?_;refine il (i:=10) gm.nd rfl (.inl rfl) (dj 0 aG);refine aL ?_ ?_;refine fH rfl ?_ (bU (i:=11) gm.nd rfl (.inl rfl)) ?_;refine pR (pN (aA 9));refine aM ?_;refine fH rfl ?_ ?_ ?_;refine pR ?_;refine pN ?_;refine aX ?_;refine fc d (a.mono (by decide)) ?_;refine aC (au (aA 11)) ?_
 refine aC (au (aA 7)) ?_;refine aC (au (aA 8)) aG;refine sW 2 rfl ?_;refine gb (bU (i:=12) gm.nd rfl (.inl rfl)) ?_;refine gb (bU (i:=13) gm.nd rfl (.inl rfl)) sV;refine aL ?_ ?_;refine bf (i:=14) gm.nd rfl (.inl rfl) ?_;refine aX ?_;refine gh (au (aA 11)) (d7 (aA 12)) (d7 (aA 13));refine aM ?_;refine lY 10 ?_;refine aX ?_;refine gh (au (aA 14)) km ?_;refine d7 ?_;refine bL c (a.mono (by decide)) ?_;refine aC (au (aA 14)) ?_;refine aC (au (aA 7)) aG;refine aM ?_;refine cg ?_;refine aX ?_;refine gh (aB 10) ?_ km;refine d7 ?_;refine aX ?_;refine dz (ms:=[.s,.s]) (hv:=Kl) (XS rfl) B.max_ ?_
 refine aC (au aK) ?_;refine aC ?_ aG;refine aP ?_;refine aW j8 ?_ (au (aA 6));refine aP ?_;refine dz (ms:=[.s]) (hv:=d9) d8 B.len_ ?_;refine aC (aB 10) aG
abbrev GC:Stmt:=top 54
theorem xU:bB ["_law_cell","_law_way","_law_broad"] ["_law_cell"] (aR GC):=by trivial
def xV:MS :=
  (aD (aF 1 (ao gIx (bI (aj (mC (.str [99,117,116])) (aj (mC (.str [99,101,108,108,115])) (aj (mC (.str [119,111,114,100,115])) (aj (mC (.str [101,118,101,110])) aq))))) (ao bH (aa 0) (mC (.int 4)))))
  (aD (aF 2 (ao aZ (mC (.int 2)) (ao bH (aH fj (aj (aa 0) (aj (mC (.int 2)) aq))) (mC (.int 8)))))
  (aD (bc (aJ (ao gEq (ao bH (ao dG (aa 0) (mC (.int 12))) (mC (.int 6))) (mC (.int 5)))) (aF 2 (ao aZ (mC (.int 10)) (ao bH (aH fj (aj (aa 0) (aj (mC (.int 2)) aq))) (mC (.int 29))))) bj)
  (aV (cG (aj (mC (.str [97])) (aj (mC (.int 0)) (aj (ao bH (ao dG (aa 0) (mC (.int 4))) (mC (.int 3))) (aj (ao aZ (mC (.int 1)) (ao bH (aH fj (aj (aa 0) (aj (mC (.int 1)) aq))) (mC (.int 12)))) (aj (aa 2) (aj (aa 1) aq)))))))))))
def mX:List D->ak->Res D:=bC 3 xV
abbrev Nv(Pr:Program)(w:World)(K:Frag)(mg:Str->Option Value)(base:Heap):Prop:=Can Pr w K mg base "_law_room" ["_law_cell"] 2 (vSp K mg [.s] (rV K) mX)
theorem QpC(d:Def K mg "_law_room" GC)
  (B:bM mg)
  (h:bD K=true)
  (c:xD Pr w K mg base):
  Nv Pr w K mg base:=by
 refine bW (k:=1) (b:=xV) d xU (λ_ _ _ _ _ _=>aQ λ_=>bO rfl) [.s] [.v,.v] b8 (λ_ _ _ _=>Rp.non) (body:=λf g A outer s H E a P=>?_);refine aL ?_ ?_;refine bf (i:=1) xU.nd rfl (.inl rfl) ?_;refine bR ?_ ?_;refine aP ?_;refine dj 4 ?_;refine bh (cU [99,117,116]) ?_;refine bh (cU [99,101,108,108,115]) ?_;refine bh (cU [119,111,114,100,115]) ?_;refine bh (cU [101,118,101,110]) aG;refine aP ?_;refine aW dN (aB 0) (au aK);refine aL ?_ ?_;refine bf (i:=2) xU.nd rfl (.inl rfl) ?_;refine aX ?_;refine aW cX (au aK) ?_;refine aP ?_;refine aW dN ?_ (au aK)
 refine au ?_;refine bL c (a.mono (by decide)) ?_;refine aC (aB 0) ?_;refine aC (au aK) aG;refine aL ?_ ?_;refine cD ?_ ?_ cL;refine bV (dC a) ?_ (au aK) (bJ _);refine aP ?_;refine aW dN ?_ (au aK);refine aP ?_;refine aW j9 (aB 0) (au aK);refine aM ?_;refine bf (i:=2) xU.nd rfl (.inl rfl) ?_;refine aX ?_;refine aW cX (au aK) ?_;refine aP ?_;refine aW dN ?_ (au aK);refine au ?_;refine bL c (a.mono (by decide)) ?_;refine aC (aB 0) ?_;refine aC (au aK) aG;refine aM ?_;refine cg ?_;refine dZ 6 ?_;refine bh (cU [97]) ?_;refine bh aK ?_;refine bh ?_ ?_
 refine aX ?_;refine aW dN ?_ (au aK);refine aP ?_;refine aW j9 (aB 0) (au aK);refine bh ?_ ?_;refine aX ?_;refine aW cX (au aK) ?_;refine aP ?_;refine aW dN ?_ (au aK);refine au ?_;refine bL c (a.mono (by decide)) ?_;refine aC (aB 0) ?_;refine aC (au aK) aG;refine bh (aA 2) ?_;refine bh (aA 1) aG
abbrev xW:Stmt:=top 55
theorem Qnh:bB ["_law_parts_here"] ["_law_parts_here"] (aR xW):=by trivial
def xX:MS :=
  (aV (c7 (bY (aa 0)) 2 [] (gw 2 (cM (mgN 0) (cM (mgN 1) ir))) cQ (cG (aj (aY gD (aj (aa 0) aq)) (aj (aa 1) aq)))))
def qO:List D->ak->Res D:=bC 1 xX
abbrev Ny(Pr:Program)(w:World)(K:Frag)(mg:Str->Option Value)(base:Heap):Prop:=Can Pr w K mg base "_law_copied" ["_law_parts_here"] 1 (vSp K mg [.s] (rO K) qO)
theorem Qng(a:Def K mg "_law_copied" xW)
  (B:bM mg)
  (g:bD K=true):
  Ny Pr w K mg base:=by
 refine bW (k:=0) (b:=xX) a Qnh (λ_ _ _ _ _ _=>aQ λ_=>bO rfl) [.s] [] dD (λ_ _ _ _=>.inl ⟨rfl,Rp.non⟩) (body:=λf c A outer s H E d P=>?_);refine aM ?_;refine fO ?_;refine lU (aR xW) ["_law_parts_here"] ["_law_letters_here","_law_word"] [] rfl (iU (aB 0)) (λ_ _ _ _ P=>?_) (λ_ _ _ _ P=>?_) (λ_ _ _ _ P=>?_);refine sW 2 rfl ?_;refine gb (bU (i:=0) (show(bF ["_law_parts_here"] ["_law_letters_here","_law_word"] []).Nodup by decide +kernel) rfl (.inl rfl)) ?_;refine gb (bU (i:=1) (show(bF ["_law_parts_here"] ["_law_letters_here","_law_word"] []).Nodup by decide +kernel) rfl (.inl rfl)) sV
 exact iK
 refine dZ 2 ?_;refine bh ?_ ?_;refine aX ?_;refine nT (ms:=[.s]) (hv:=nU) vK B.list_ ?_;refine aC (au (aA 0)) aG;refine bh (aA 1) aG
abbrev xY:Stmt:=top 56
theorem qP:bB ["_law_parts_here","_law_row","_law_room_here","_law_handed","_law_lent","_law_found","_law_line"] ["_law_parts_here","_law_row","_law_room_here"] (aR xY):=by trivial
def xZ:MS :=
  (aD (aF 3 (aH qO (aj (aa 0) aq)))
  (aD (aF 4 (aY gD (aj (aa 1) aq)))
  (aD (aF 5 (aH qH (aj (aa 3) (aj (aa 4) (aj (aa 2) aq)))))
  (aD (bc (dJ (aJ (ao gNe (aa 3) (aa 0))) (dJ (aJ (ao gNe (aa 4) (aa 1))) (dM (cz (eZ "list" (aa 5)))))) (aV (mC (.bl false))) bj)
  (aD (mj 5 [0,2] (mF (aa 5) (mgN 6) (bc (dJ (dM (cz (eZ "list" (aa 6)))) (dM (cz (aY tH (aj (oh (aa 6) 1 [] (mgN 0) cQ (eZ "tuple" (aa 0))) aq))))) (aV (mC (.bl false))) bj)))
  (aD (bc (aJ (nZ true 4 (aa 5) (aH mW (aj (aa 0) (aj (aa 1) (aj (aa 2) aq)))))) (aV (mC (.bl false))) bj)
  (aD (mj 5 [0,2] (mF (aa 5) (mgN 6) (tR (aa 6) (cG (aj (mC (.str [97])) (aj (mC (.str [46])) (aj (mC (.str [46])) (aj (mC (.int 0)) aq))))))))
  (aD (vM 5)
  (aV (ik (ao gEq (aa 3) (aa 0)) (ao gEq (aa 4) (aa 1))))))))))))
def mY:List D->ak->Res D:=bC 7 xZ
abbrev Nz(Pr:Program)(w:World)(K:Frag)(mg:Str->Option Value)(base:Heap):Prop:=Can Pr w K mg base "_law_right" ["_law_parts_here","_law_row","_law_room_here"] 13 (vSp K mg [.s,.v,.s] (rV K) mY)
theorem Qo8(h:Def K mg "_law_right" xY)
  (B:bM mg)
  (l:bD K=true)
  (g:Ny Pr w K mg base)
  (d:Nm Pr w K mg base)
  (c:Nu Pr w K mg base):
  Nz Pr w K mg base:=by
 refine bW (k:=12) (b:=xZ) h qP (λ_ _ _ _ _ _=>aQ λ_=>aQ λ_=>aQ λ_=>bO rfl) [.s,.v,.s] [.v,.v,.o,.v] b8 (λ_ _ _ _=>Rp.non) (body:=λf j A outer s H E a P=>?_);refine aL ?_ ?_;refine bf (i:=3) qP.nd rfl (.inl rfl) ?_;refine aX ?_;refine fc g (a.mono (by decide)) ?_;refine aC (aB 0) aG;refine aL ?_ ?_;refine bf (i:=4) qP.nd rfl (.inl rfl) ?_;refine aX ?_;refine nT (ms:=[.s]) (hv:=nU) vK B.list_ ?_;refine aC (au (aA 1)) aG;refine aL ?_ ?_;refine il (i:=5) qP.nd rfl (.inl rfl) ?_;refine fc d (a.mono (by decide)) ?_;refine aC (au (aA 3)) ?_
 refine aC (au (aA 4)) ?_;refine aC (aB 2) aG;refine aL ?_ ?_;refine cD ?_ ?_ cL;refine jG ?_;refine pC ?_ ?_;refine bV (pH a) (au (aA 3)) (aB 0) (bJ _);refine pC ?_ ?_;refine bV (pH a) (au (aA 4)) (au (aA 1)) (bJ _);refine sO ?_;refine nH ?_;refine ig ?_;refine aP (pL "list" (hb:=nU) B.isinstance_ B.list_ (aB 5));refine aM (cg j5);refine aL ?_ ?_;refine KQ (md':=[.s,.v,.s,.v,.v,.s,.v]) 5 [0,2] b8 (λP=>?_);refine KZ rfl (Bf 5) (bU (i:=6) qP.nd rfl (.inl rfl)) ?_;refine aM ?_;refine cD ?_ ?_ cL;refine jG ?_;refine pC ?_ ?_;refine nH ?_;refine ig ?_
 refine aP ?_;refine pL "list" (hb:=nU) B.isinstance_ B.list_ (au (aA 6));refine sO ?_;refine nH ?_;refine ig ?_;refine aP ?_;refine dz (ms:=[.s]) (hv:=X4) (X3 rfl) B.all_ ?_;refine aC ?_ aG;refine aP ?_;refine ZF (aR xY) ["_law_parts_here","_law_row","_law_room_here","_law_handed","_law_lent","_law_found","_law_line"] ["_law_letter"] [] rfl (aA 6) (λ_ _ _ _ P=>?_) (λ_ _ _ _ P=>?_) (λ_ _ _ _ P=>?_);exact bU (i:=0) (show(bF ["_law_parts_here","_law_row","_law_room_here","_law_handed","_law_lent","_law_found","_law_line"] ["_law_letter"] []).Nodup by decide +kernel) rfl (.inl rfl)
 exact iK
 refine aX ?_;refine pL "tuple" (hb:=X6) B.isinstance_ B.tuple_ (au (aA 0));refine aM (cg j5);refine aL ?_ ?_;refine cD ?_ ?_ cL;refine YF 4 a (aB 5) ?_;refine au ?_;refine bL c (a.mono (by decide)) ?_;refine aC (aB 0) ?_;refine bh (aA 1) ?_;refine aC (aB 2) aG;refine aM (cg j5);refine aL ?_ ?_;refine KQ (md':=[.s,.v,.s,.v,.v,.s,.v]) 5 [0,2] b8 (λP=>?_);refine KZ rfl (Bf 5) (bU (i:=6) qP.nd rfl (.inl rfl)) ?_;refine aM ?_;refine Yz (aA 6) ?_;refine dZ 4 ?_;refine bh (cU [97]) ?_;refine bh (cU [46]) ?_;refine bh (cU [46]) ?_;refine bh aK aG;refine aL (Yi 5) ?_
 refine aM ?_;refine cg ?_;refine pD ?_ ?_;refine aX ?_;refine j6 (dC a) (au (aA 3)) (aB 0) (bJ _);refine nM ?_;refine aX ?_;refine j6 (dC a) (au (aA 4)) (au (aA 1)) (bJ _)
abbrev jU:Stmt:=top 57
theorem lC:bB ["_law_script","_law_parts_here","_law_cell","_law_many_here","_law_row","_law_one","_law_other","_law_room_here"] ["_law_script"] (aR jU):=by trivial
def yc:MS :=
  (aD (aF 1 (aH xG (aj (aa 0) (aj (mC (.int 14)) aq))))
  (aD (aF 2 (aH fV (aj (aa 0) (aj (mC (.int 3)) aq))))
  (aD (aF 3 (ao bH (aa 2) (mC (.int 15))))
  (aD (bc (aJ (ao gEq (ao bH (ao dG (aa 2) (mC (.int 15))) (mC (.int 6))) (mC (.int 5)))) (aF 3 (ao aZ (mC (.int 40)) (ao bH (ao dG (aa 2) (mC (.int 90))) (mC (.int 41))))) bj)
  (aD (aF 4 (aH oO (aj (aa 2) (aj (aa 3) (aj (mC (.int 12)) aq)))))
  (aD (aF 5 (aH mX (aj (aH fV (aj (aa 0) (aj (mC (.int 0)) aq))) aq)))
  (aD (aF 6 (aH mX (aj (aH fV (aj (aa 0) (aj (mC (.int 1)) aq))) aq)))
  (aD (cA (bY (bI (aj (aa 5) (aj (aa 6) (aj (aa 5) aq))))) (mgN 7) (bc (dM (cz (aH mY (aj (aa 1) (aj (aa 4) (aj (aa 7) aq)))))) (aV (mC (.bl false))) bj))
  (aV (mC (.bl true)))))))))))
def ye:List D->ak->Res D:=bC 8 yc
abbrev QzO(Pr:Program)(w:World)(K:Frag)(mg:Str->Option Value)(base:Heap):Prop:=Can Pr w K mg base "law" ["_law_script"] 14 (vSp K mg [.s] (rV K) ye)
theorem Qx8(l:Def K mg "law" jU)
  (B:bM mg)
  (n:bD K=true)
  (j:Nq Pr w K mg base)
  (c:FJ Pr w K mg base)
  (g:FW Pr w K mg base)
  (d:Nv Pr w K mg base)
  (h:Nz Pr w K mg base):
  QzO Pr w K mg base:=by
 refine bW (k:=13) (b:=yc) l lC (λ_ _ _ _ _ _=>aQ λ_=>bO rfl) [.s] [.v,.v,.v,.v,.v,.v,.v] b8 (λ_ _ _ _=>Rp.non) (body:=λf m A outer s H E a P=>?_);refine aL ?_ ?_;refine bf (i:=1) lC.nd rfl (.inl rfl) ?_;refine aX ?_;refine fc j (a.mono (by decide)) ?_;refine aC (aB 0) ?_;refine aC (au aK) aG;refine aL ?_ ?_;refine bf (i:=2) lC.nd rfl (.inl rfl) ?_;refine bL c (a.mono (by decide)) ?_;refine aC (aB 0) ?_;refine aC (au aK) aG;refine aL ?_ ?_;refine bf (i:=3) lC.nd rfl (.inl rfl) ?_;refine aX ?_;refine aW dN (au (aA 2)) (au aK);refine aL ?_ ?_
 refine cD ?_ ?_ cL;refine bV (dC a) ?_ (au aK) (bJ _);refine aP ?_;refine aW dN ?_ (au aK);refine aP ?_;refine aW j9 (au (aA 2)) (au aK);refine aM ?_;refine bf (i:=3) lC.nd rfl (.inl rfl) ?_;refine aX ?_;refine aW cX (au aK) ?_;refine aP ?_;refine aW dN ?_ (au aK);refine aP ?_;refine aW j9 (au (aA 2)) (au aK);refine aL ?_ ?_;refine bf (i:=4) lC.nd rfl (.inl rfl) ?_;refine aX ?_;refine fc g (a.mono (by decide)) ?_;refine aC (au (aA 2)) ?_;refine aC (au (aA 3)) ?_;refine aC (au aK) aG;refine aL ?_ ?_;refine bf (i:=5) lC.nd rfl (.inl rfl) ?_
 refine bL d (a.mono (by decide)) ?_;refine aC ?_ aG;refine au ?_;refine bL c (a.mono (by decide)) ?_;refine aC (aB 0) ?_;refine aC (au aK) aG;refine aL ?_ ?_;refine bf (i:=6) lC.nd rfl (.inl rfl) ?_;refine bL d (a.mono (by decide)) ?_;refine aC ?_ aG;refine au ?_;refine bL c (a.mono (by decide)) ?_;refine aC (aB 0) ?_;refine aC (au aK) aG;refine aL ?_ ?_;refine fH rfl ?_ (bU (i:=7) lC.nd rfl (.inl rfl)) ?_;refine pR ?_;refine pN ?_;refine aX ?_;refine dj 3 ?_;refine bh (aA 5) ?_;refine bh (aA 6) ?_;refine bh (aA 5) aG;refine aM ?_;refine cD ?_ ?_ cL
 refine nH ?_;refine ig ?_;refine au ?_;refine bL h (a.mono (by decide)) ?_;refine aC (au (aA 1)) ?_;refine bh (aA 4) ?_;refine aC (au (aA 7)) aG;refine aM (cg j5);refine aM (cg j5)
end
theorem bx{g:D->D->Option D}{a b:L2.M D}{ρ:az}{O:ak}{x y z:D}(c:a ρ O=.ok x O)(hb:b ρ O=.ok y O)(h:g (bG O x) (bG O y)=some z):ao g a b ρ O=.ok z O:=by
 rw[gM,c,aN,hb,aN,h,dR]
theorem ma1{a:L2.M D}{ρ:az}{O:ak}{x:D}(h:a ρ O=.ok x O):aj a aq ρ O=.ok [x] O:=by
 rw[gk,h,aN,gj,aN]
theorem maS{a:L2.M D}{r:L2.M (List D)}{ρ:az}{O:ak}{x:D}{xs:List D}(h:a ρ O=.ok x O)(h2:r ρ O=.ok xs O):aj a r ρ O=.ok (x::xs) O:=by
 rw[gk,h,aN,h2,aN]
theorem jx{m:L2.M (List D)}{ρ:az}{O:ak}{xs:List D}(h:m ρ O=.ok xs O)(a:xs.length<=1000000):cG m ρ O=.ok (.tup xs) O:=by
 rw[BL,h,aN,if_pos a]
theorem lD{m:L2.M (List D)}{ρ:az}{O:ak}{xs:List D}(h:m ρ O=.ok xs O)(a:xs.length<=1000000):bI m ρ O=.ok (.lst xs) O:=by
 rw[BK,h,aN,if_pos a]
theorem lE{g:List D->Option D}{m:L2.M (List D)}{ρ:az}{O:ak}{xs:List D}{z:D}(h:m ρ O=.ok xs O)(a:g (xs.map (bG O))=some z):aY g m ρ O=.ok z O:=by
 rw[mK,h,aN,a,dR]
theorem oR{i:Nat}{m:L2.M D}{ρ:az}{O:ak}{d:D}{ds:List D}(a:m ρ O=.ok d O)(h:ρ[i]?=some (some (.lst ds)))(b:ds.length<1000000):dq i m ρ O=.nx (ρ.set i (some (.lst (ds++[d])))) O:=by
 rw[LR,a,Ma h b]
theorem bw{i:Nat}{m:L2.M D}{ρ:az}{O:ak}{d:D}(h:m ρ O=.ok d O):aF i m ρ O=.nx (ρ.set i (some d)) O:=by
 rw[jN,h,jO]
theorem bz{c:List D->ak->Res D}{a:L2.M (List D)}{ρ:az}{O:ak}{ds:List D}(h:a ρ O=.ok ds O):aH c a ρ O=c ds O:=by
 rw[jK,h,aN]
theorem fB{m:L2.M D}{ρ:az}{O:ak}{b:Bool}(h:m ρ O=.ok (.bl b) O):aJ m ρ O=.ok b O:=by
 rw[iz,h,aN,iZ]
theorem dU{t:L2.M Bool}{a b:MS}{ρ:az}{O:ak}(h:t ρ O=.ok true O):bc t a b ρ O=a ρ O:=by
 rw[jL,h,jM,if_pos rfl]
theorem dh{t:L2.M Bool}{a b:MS}{ρ:az}{O:ak}(h:t ρ O=.ok false O):bc t a b ρ O=b ρ O:=by
 rw[jL,h,jM,if_neg zh]
theorem qQ{m:L2.M D}{ρ:az}{O:ak}{l:List D}(h:m ρ O=.ok (.lst l) O):aY bT (aj m aq) ρ O=.ok (.int (l.length:Int)) O:=lE (ma1 h) rfl
theorem NB{m:L2.M D}{ρ:az}{O:ak}{n:Nat}(h:m ρ O=.ok (.int (n:Int)) O)(a:n<=1000000):gG (aj m aq) ρ O=.ok (cH 0 n) O:=by
 rw[ZW,ma1 h,aN];show(if(n:Int)<=1000000000/\-1000000000<=(n:Int) then Res.ok (cH 0 (n:Int).toNat) O else .no)=_;rw[if_pos ⟨by omega,by omega⟩,Int.toNat_natCast]
theorem oU{a b:L2.M D}{ρ:az}{O:ak}{i j:Int}(d:a ρ O=.ok (.int i) O)(hb:b ρ O=.ok (.int j) O)(c:0<j):ao bH a b ρ O=.ok (.int (i % j)) O:=bx d hb (by rw[cV,cV,mO,if_pos c])
theorem yh{a b:L2.M D}{ρ:az}{O:ak}{i j:Int}(c:a ρ O=.ok (.int i) O)(hb:b ρ O=.ok (.int j) O):ao aZ a b ρ O=.ok (.int (i+j)) O:=bx c hb rfl
theorem QzM{a b:L2.M D}{ρ:az}{O:ak}{i j:Int}(c:a ρ O=.ok (.int i) O)(hb:b ρ O=.ok (.int j) O):ao dB a b ρ O=.ok (.int (i - j)) O:=bx c hb rfl
theorem qR{a b:L2.M D}{ρ:az}{O:ak}{i j:Int}(c:a ρ O=.ok (.int i) O)(hb:b ρ O=.ok (.int j) O):aJ (ao gLt a b) ρ O=.ok (decide (i<j)) O:=fB (bx c hb rfl)
theorem G4{a b:L2.M D}{ρ:az}{O:ak}{i j:Int}(c:a ρ O=.ok (.int i) O)(hb:b ρ O=.ok (.int j) O):aJ (ao gEq a b) ρ O=.ok (decide (i=j)) O:=fB (bx c hb rfl)
theorem NP{α:Type}(l:List α)(a b:Nat):du l (some (a:Int)) (some (b:Int))=(l.drop a).take (b - a):=by
 unfold du;rw[HT.sIx_nat,HT.sIx_nat]
 by_cases h:a<=l.length
 ·rw[Nat.min_eq_left h]
  by_cases c:b<=l.length
  ·rw[Nat.min_eq_left c]
  ·rw[Nat.min_eq_right (by omega),List.take_of_length_le (by rw[List.length_drop];omega),List.take_of_length_le (by rw[List.length_drop];omega)]
 ·rw[Nat.min_eq_right (show l.length<=a by omega),List.drop_eq_nil_of_le (show l.length<=l.length by omega),List.drop_eq_nil_of_le (show l.length<=a by omega)];simp
theorem Qx7{α:Type}(l:List α)(b:Nat):du l none (some (b:Int))=l.take b:=by
 unfold du;rw[HT.sIx_nat,HT.sIx_none,List.drop_zero,Nat.sub_zero]
 by_cases a:b<=l.length
 ·rw[Nat.min_eq_left a]
 ·rw[Nat.min_eq_right (by omega),List.take_of_length_le (by omega),List.take_of_length_le (by omega)]
theorem NQ{α:Type}(l:List α)(a:Nat):du l (some (a:Int)) none=l.drop a:=by
 unfold du;rw[HT.sIx_nat,HT.sIx_none]
 by_cases h:a<=l.length
 ·rw[Nat.min_eq_left h,List.take_of_length_le (by rw[List.length_drop];omega)]
 ·rw[Nat.min_eq_right (by omega),List.drop_eq_nil_of_le (by omega),List.drop_eq_nil_of_le (by omega)];simp
@[simp] theorem QCj{a:Nat}:du [a] none (some 2)=[a]:=rfl
@[simp] theorem QBm{i:Int}:fJ (.int i) (.int 48271)=some (.int (i * 48271)):=vZ (.inr ⟨by decide,by decide⟩)
@[simp] theorem QwR{i:Int}:fJ (.int 7) (.int i)=some (.int (7 * i)):=vZ (.inl ⟨by decide,by decide⟩)
@[simp] theorem QCg{a b c d:D}:gIx (.tup [a,b,c,d]) (.int 0)=some a:=rfl
theorem NT{lo:Int}{n i:Nat}{d:D}(h:(cH lo n)[i]?=some d):i<n/\d=.int (lo+i):=by
 unfold cH at h;rw[zF] at h
 cases q:(List.range n)[i]? with
 |none=>rw[q] at h;cases h
 |some c =>
  rw[q] at h;obtain⟨a,b⟩:=zl.mp q;simp at a b;simp at h;exact⟨a,by rw[<-h,b]⟩
theorem ixS{l:List Nat}{v n:Int}(b:l.length<=1000000)(h:(l.length:Int)=n)(a:0<n):∃c,c∈l/\gIx (.str l) (.int (v % n))=some (.str [c]):=by
 obtain⟨c,h1,h2⟩:=Ca (xs:=l) (i:=v % n) (jj _ (by omega)) (by rw[h];exact jk _ a);exact⟨c,h2,by rw[ZZ,if_pos b,h1];rfl⟩
theorem ixL{l:List D}{v n:Int}(h:(l.length:Int)=n)(a:0<n):∃c,c∈l/\gIx (.lst l) (.int (v % n))=some c:=by
 obtain⟨c,h1,h2⟩:=Ca (xs:=l) (i:=v % n) (jj _ (by omega)) (by rw[h];exact jk _ a);exact⟨c,h2,h1⟩
abbrev LT:=Nat×Nat×Nat×Int
def dL(x:LT):D:=.tup [.str [x.1],.str [x.2.1],.str [x.2.2.1],.int x.2.2.2]
def OkL(x:LT):Prop:=(32<=x.1/\x.1<=125)/\x.2.1<=125/\x.2.2.1<=125
def wid(c:Nat):Int:=if 65<=c/\c<=90 then 2 else 1
def trn(l:List LT):Nat->Nat
 | 0=>0
 |n+1=>if(l[n]?).map (λx=>x.1)=some 32 then trn l n else n+1
theorem yj(l:List LT):∀n,trn l n<=n
 | 0=>zb _
 |n+1=>by
  unfold trn
  split
  ·exact Nat.le_succ_of_le (yj l n)
  ·exact zb _
def wsum(l:List LT):Int:=(l.map λx=>wid x.1).sum
theorem G5{α:Type}(f:α->Int):∀l:List α,eY (l.map λx=>.int (f x))=some (l.map f)
 | []=>rfl
 |x::l=>by
  show(eY (l.map λx=>D.int (f x))).map _=_;rw[G5 f l];rfl
theorem NZ{α:Type}(f:α->Int)(l:List α)(h:∀x∈l,0<=f x/\f x<=1000000)(c:l.length<=1000000):pK [.lst (l.map λx=>.int (f x))]=some (.int (l.map f).sum):=by
 unfold pK;dsimp only;rw[G5];show(if _ then _ else _)=_;rw[if_pos];rw[zu,jd];refine⟨λn b=>?_,zj (by rw[zd];exact c)⟩;obtain⟨x,a,rfl⟩:=zx.mp b
 have:=h x a
 simp[this]
theorem N5(c:Nat):0<=wid c/\wid c<=1000000:=by
 unfold wid
 split<;>decide
theorem G6{x:LT}(h:OkL x):dg (dL x)=true/\(toP (dL x)).canLay0=true/\(toP (dL x)).depth<=5:=by
 obtain⟨⟨_,h1⟩,h2,h3⟩:=h;refine⟨rfl,?_,?_⟩
 ·have a:=wu (l:=[x.1]) (by simp;omega);have b:=wu (l:=[x.2.1]) (by simp;omega);have c:=wu (l:=[x.2.2.1]) (by simp;omega);show PyData.canLay0 (.tuple [.str (S [x.1]),.str (S [x.2.1]),.str (S [x.2.2.1]),.int x.2.2.2])=true;simp[PyData.canLay0,PyData.canLayAll0] at *
  try exact⟨a,b,c⟩
 ·show PyData.depth (.tuple [.str (S [x.1]),.str (S [x.2.1]),.str (S [x.2.2.1]),.int x.2.2.2])<=5;simp[PyData.depth,PyData.depthAll]
theorem ym(l:List LT)(h:∀x∈l,OkL x):okE (.lst (l.map dL))=true:=wk (n:=5) (by decide) λd hd=>by
 obtain⟨x,a,rfl⟩:=zx.mp hd;exact G6 (h x a)
theorem qT(c:Nat)(O:ak):jw [.str [c]] O=.ok (.int (wid c)) O:=by
 simp[jw,Cg,wid]
 by_cases h1:65<=c<;>by_cases h2:c<=90<;>simp[h1,h2]
theorem ixs{l:List LT}{i:Nat}{x:LT}(e:l[i]?=some x):gIx (.lst (l.map dL)) (.int (i:Int))=some (dL x):=by
 rw[wg,BZ,zF,e];rfl
def bZ:List LT->Int->Nat
 | [],_=>0
 |x::xs,w=>if wid x.1<=w then bZ xs (w - wid x.1)+1 else 0
theorem qU:∀(l:List LT) (w:Int),bZ l w<=l.length
 | [],_=>zb _
 |x::xs,w=>by
  unfold bZ
  split
  ·have:=qU xs (w - wid x.1)
   simp only[zw];omega
  ·exact Nat.zero_le _
theorem N6(c:Nat):1<=wid c/\wid c<=2:=by
 unfold wid
 split<;>decide
theorem QtO{l:List LT}{w:Int}(h:l≠[])(hw:2<=w):1<=bZ l w:=by
 cases l with
 |nil=>exact absurd rfl h
 |cons x xs =>
  have:=N6 x.1
  unfold bZ;rw[if_pos (by omega)];omega
def rch(l:List LT)(lo:Nat)(w:Int):Nat:=lo+bZ (l.drop lo) w
theorem G7(l:List LT)(lo:Nat)(w:Int)(h:lo<=l.length):rch l lo w<=l.length:=by
 have:=qU (l.drop lo) w
 rw[List.length_drop] at this;unfold rch;omega
theorem N7(l:List LT)(lo:Nat)(w:Int)(h:lo<l.length)(hw:2<=w):lo<rch l lo w:=by
 have hd:l.drop lo≠[]:=λz=>by
  have:=congrArg List.length z
  simp at this
  omega
 have:=QtO hd hw
 unfold rch;omega
theorem QuG{l:List LT}{i k:Nat}{w:Int}(h:bZ (l.drop i) w=k+1):∃x,l[i]?=some x/\i<l.length/\wid x.1<=w/\bZ (l.drop (i+1)) (w - wid x.1)=k:=by
 by_cases hi:i<l.length
 ·rw[List.drop_eq_getElem_cons hi] at h;unfold bZ at h;split at h
  ·rename_i hw;exact⟨l[i],zv hi,hi,hw,by omega⟩
  ·omega
 ·rw[List.drop_eq_nil_of_le (by omega)] at h;cases h
theorem Qvk{l:List LT}{i:Nat}{w:Int}(h:bZ (l.drop i) w=0):¬i<l.length\/∃x,l[i]?=some x/\i<l.length/\¬wid x.1<=w:=by
 by_cases hi:i<l.length
 ·rw[List.drop_eq_getElem_cons hi] at h;unfold bZ at h;split at h
  ·omega
  ·rename_i hw;exact .inr ⟨l[i],zv hi,hi,hw⟩
 ·exact .inl hi
theorem yo(l:List LT)(lo:Nat)(w:Int)(z:l.length<=1000)(n:lo<=l.length)(O:ak):mU [.lst (l.map dL),.int (lo:Int),.int w] O=.ok (.int (rch l lo w:Nat)) O:=by
 have u:=qU (l.drop lo) w;rw[List.length_drop] at u;obtain⟨y,d,e,rfl,j,c,rfl,h1,h2,h3⟩:=Mf (t:=eV (aJ (ao gLt (aa 3) (aY bT (aj (aa 0) aq)))) (aJ (ao gLe (ao aZ (aa 4) (aH jw (aj (ao gIx (ao gIx (aa 0) (aa 3)) (mC (.int 0))) aq))) (aa 2))))
  (b:=aD (aF 4 (ao aZ (aa 4) (aH jw (aj (ao gIx (ao gIx (aa 0) (aa 3)) (mC (.int 0))) aq)))) (aF 3 (ao aZ (aa 3) (mC (.int 1)))))
  (λk ρ d=>d=O/\∃(j:Nat) (c:Int),ρ=[some (.lst (l.map dL)),some (.int (lo:Int)),some (.int w),some (.int ((lo+j:Nat):Int)),some (.int c)]/\lo+j<=l.length/\j+k=bZ (l.drop lo) w/\k=bZ (l.drop (lo+j)) (w - c)) wF (bZ (l.drop lo) w) [some (.lst (l.map dL)),some (.int (lo:Int)),some (.int w),some (.int ((lo+0:Nat):Int)),some (.int 0)] O (by unfold wF;omega) ⟨rfl,0,0,rfl,n,by omega,by simp⟩
  (by
   rintro k ρ d ⟨rfl,j,c,rfl,h1,h2,h3⟩;obtain⟨x,m,hi,hw,q⟩:=QuG h3.symm;have g:=ixs m
   have a:((lo+j:Nat):Int)<(l.length:Int):=by omega
   have f:c+wid x.1<=w:=by omega
   have h:gIx (dL x) (.int 0)=some (.str [x.1]):=rfl;have i:bG d (dL x)=dL x:=rfl;refine⟨?_,k,_,_,zb _,?_,rfl,j+1,c+wid x.1,rfl,by omega,by omega,?_⟩
   ·simp only[mJ,iz,gM,mK,jK,gk,gj,fL,m_c,zS,zW,aN,cT,cV,ze,zO,wj,zd,dR,BV,zj a,iZ,if_true,g,i,h,qT,mL,BW,zj f]
   ·simp only[cu,jN,gM,jK,gk,gj,fL,m_c,zS,zW,aN,cT,cV,g,i,h,dR,qT,mL,jO,cW,jl,jm];rfl
   ·rw[<-q,show lo+(j+1)=lo+j+1 by omega,show w - (c+wid x.1)=w - c - wid x.1 by omega])
  (by
   rintro ρ d ⟨rfl,j,c,rfl,h1,h2,h3⟩
   rcases Qvk h3.symm with hi | ⟨x,m,hi,hw⟩
   ·have a:¬((lo+j:Nat):Int)<(l.length:Int):=by omega
    simp only[mJ,iz,gM,mK,gk,gj,fL,zS,zW,aN,cT,cV,ze,zO,wj,zd,dR,BV,zf a,iZ,Bool.false_eq_true,if_false]
   ·have g:=ixs m
    have a:((lo+j:Nat):Int)<(l.length:Int):=by omega
    have f:¬c+wid x.1<=w:=by omega
    have h:gIx (dL x) (.int 0)=some (.str [x.1]):=rfl;have i:bG d (dL x)=dL x:=rfl
    simp only[mJ,iz,gM,mK,jK,gk,gj,fL,m_c,zS,zW,aN,cT,cV,ze,zO,wj,zd,dR,BV,zj a,iZ,if_true,g,i,h,qT,mL,BW,zf f])
 have r:lo+j=rch l lo w:=by unfold rch;omega
 rw[r] at e;show bu (wB [some (.lst (l.map dL)),some (.int (lo:Int)),some (.int w),none,none] d)=_;unfold wB;simp only[cu,jN,m_g,fL,m_c,zS,zW,Lh,jO,cW,jl,jm,uh];have e':dw _ _ wF [some (.lst (l.map dL)),some (.int (lo:Int)),some (.int w),some (.int (lo:Int)),some (.int 0)] d=_:=e;rw[e'];rfl
theorem QvY(l:List LT)(d:l.length<=1000)(O:ak):wA [.lst (l.map dL)] O=.ok (.int (wsum l)) O:=by
 have c:=kW (g:=mgN 0) (t:=cQ) (m:=aH jw (aj (ao gIx (aa 0) (mC (.int 0))) aq)) (λρ=>∃a,ρ=[a]) dL (λx=>D.int (wid x.1)) l [none] O [] ⟨_,rfl⟩ (by
  rintro x hx ρ ⟨a,rfl⟩;refine⟨_,rfl,⟨_,rfl⟩,rfl,?_⟩
  simp[dL,qT])
 have z:(l.map dL).length<=1000000:=by rw[zd];omega
 have b:=NZ (λx:LT=>wid x.1) l (λx _=>N5 _) (by omega);simp only[wA,Cj,fQ,ze,zO,zw,zU,List.replicate,List.cons_append,zD,ju,mK,gk,gj,BR,BP,fL,zS,aN,Lx,Lw,if_pos z,Z2,c,cT,zH];rw[show(λx:LT=>D.int (wid x.1))=(λx:LT=>D.int ((λx:LT=>wid x.1) x)) from rfl,b];rfl
theorem mZ(l:List LT)(m:Nat):trn l (m+1)=if(l[m]?).map (λx=>x.1)=some 32 then trn l m else m+1:=rfl
theorem N8{m:M (List D)}{ρ:az}{O a:ak}{i j:Int}(e:m ρ O=.ok [.int i,.int j] a)(h:(i<=1000000000/\-1000000000<=i)/\j<=1000000000/\-1000000000<=j):lX m ρ O=.ok (cH i (j - i).toNat) a:=by
 unfold lX;rw[e];show(if _ then _ else _)=_;rw[if_pos h]
def isB(l:List LT)(d:D):Bool:=match d with
 | .int i=>decide (i=(l.length:Int)) || (decide ((l[(i - 1).toNat]?).map (λx=>x.1)=some 32) && !decide ((l[i.toNat]?).map (λx=>x.1)=some 32))
 | _=>false
theorem G8{l:List LT}{i:Nat}(h:i+1<l.length):∃x y,l[i]?=some x/\l[i+1]?=some y/\isB l (.int (1+(i:Int)))=(decide (x.1=32) && !decide (y.1=32)):=by
 have b:=zv (show i<l.length by omega);have a:=zv h;obtain⟨x,j⟩:∃x,l[i]=x:=⟨_,rfl⟩;obtain⟨y,g⟩:∃y,l[i+1]=y:=⟨_,rfl⟩;rw[j] at b;rw[g] at a;refine⟨x,y,b,a,?_⟩
 have f:((1:Int)+(i:Int) - 1).toNat=i:=by omega
 have d:((1:Int)+(i:Int)).toNat=i+1:=by omega
 have c:¬(1:Int)+(i:Int)=(l.length:Int):=by omega
 unfold isB;dsimp only;rw[f,d,b,a];simp[c]
theorem G9{l:List LT}{i:Nat}(h:i+1=l.length):isB l (.int (1+(i:Int)))=true:=by
 have a:(1:Int)+(i:Int)=(l.length:Int):=by omega
 unfold isB;simp[a]
theorem Qq1(l:List LT)(i:Nat)(hi:i<l.length)(O:ak):mR [.lst (l.map dL),.int (1+(i:Int))] O=.ok (.bl (isB l (.int (1+(i:Int))))) O:=by
 by_cases h:i+1=l.length
 ·have a:(1:Int)+(i:Int)=(l.length:Int):=by omega
  rw[G9 h];simp[mR,um,a]
 ·obtain⟨x,y,n,m,j⟩:=G8 (show i+1<l.length by omega)
  have a:¬(1:Int)+(i:Int)=(l.length:Int):=by omega
  have b:(1:Int)+(i:Int) - 1=(i:Int):=by omega
  have g:(1:Int)+(i:Int)=((i+1:Nat):Int):=by omega
  have d:=ixs n;have c:=ixs m;rw[j];rw[<-g] at c
  by_cases f:x.1=32
  ·simp[mR,um,a,b,d,c,dL,f]
  ·simp[mR,um,a,b,d,dL,f]
theorem uK(x:LT)(l:List LT):wsum (x::l)=wid x.1+wsum l:=by
 simp[wsum]
theorem uL:∀l:List LT,0<=wsum l
 | []=>by simp[wsum]
 |x::l=>by
  have:=uL l
  have:=N6 x.1
  rw[uK];omega
theorem Oa(l:List LT):∀(a b:Nat),a<=b->wsum (l.take a)<=wsum (l.take b):=by
 induction l with
 |nil=>intro a b _;simp
 |cons x l ih =>
  intro a b h
  cases a with
  |zero=>exact uL _
  |succ a =>
   cases b with
   |zero=>omega
   |succ b =>
    rw[List.take_succ_cons,List.take_succ_cons,uK,uK]
    have:=ih a b (by omega)
    omega
theorem Qmj{l:List LT}{k:Nat}{x:LT}(h:l[k]?=some x):wsum (l.take (k+1))=wsum (l.take k)+wid x.1:=by
 rw[List.take_succ,h];simp[wsum]
theorem yp:∀(l:List LT) (w:Int) (k:Nat),0<=w->k<=bZ l w->wsum (l.take k)<=w
 | [],w,k,hw,_=>by simpa [wsum] using hw
 |x::l,w,0,hw,_=>by simpa [wsum] using hw
 |x::l,w,k+1,hw,h=>by
  unfold bZ at h;split at h
  ·rename_i a
   have:=yp l (w - wid x.1) k (by omega) (by omega)
   rw[List.take_succ_cons,uK];omega
  ·omega
def tw(l:List LT)(lo k:Nat):Int:=wsum ((l.drop lo).take (trn (l.drop lo) k))
theorem Oc{l:List LT}{lo k:Nat}{x:LT}(h:l[lo+k]?=some x)(a:x.1=32):tw l lo (k+1)=tw l lo k:=by
 unfold tw;rw[mZ,if_pos (by rw[List.getElem?_drop,h];simp[a])]
theorem Od{l:List LT}{lo k:Nat}{x:LT}(h:l[lo+k]?=some x)(a:x.1≠32):tw l lo (k+1)=wsum ((l.drop lo).take (k+1)):=by
 unfold tw;rw[mZ,if_neg (by rw[List.getElem?_drop,h];simp[a])]
theorem Oe(l:List LT)(lo k:Nat):tw l lo k<=wsum ((l.drop lo).take k):=Oa _ _ _ (yj _ _)
theorem Qv1(l:List LT)(lo k:Nat):tw l lo k<=tw l lo (k+1):=by
 unfold tw;refine Oa _ _ _ ?_;rw[mZ]
 split
 ·exact zb _
 ·have:=yj (l.drop lo) k
  omega
theorem Qv4(l:List LT)(lo:Nat){a b:Nat}(h:a<=b):tw l lo a<=tw l lo b:=by
 obtain⟨c,rfl⟩:∃c,b=a+c:=⟨b - a,by omega⟩
 induction c with
 |zero=>exact Int.le_refl _
 |succ c d=>exact Int.le_trans (d (by omega)) (Qv1 l lo (a+c))
def gd(l:List LT)(lo:Nat)(w:Int)(k:Nat):Bool:=isB l (.int (1+((lo+k:Nat):Int)))&&decide (tw l lo (k+1)<=w)
def fes(l:List LT)(lo:Nat)(w:Int)(i:Nat):List Nat:=(List.range i).filter (gd l lo w)
def fD(l:List LT)(lo:Nat)(k:Nat):D:=.tup [.int (1+((lo+k:Nat):Int)),.int (tw l lo (k+1))]
theorem Ha(l:List LT)(lo:Nat)(w:Int)(i:Nat):fes l lo w (i+1)=fes l lo w i++(if gd l lo w i=true then[i] else[]):=by
 unfold fes;rw[List.range_succ,List.filter_append];congr 1
 by_cases h:gd l lo w i=true<;>simp[h]
theorem Hb{l:List LT}{lo:Nat}{w:Int}{i:Nat}(h:w<tw l lo (i+1)):∀n,i<=n->fes l lo w n=fes l lo w i:=by
 intro n b;obtain⟨c,rfl⟩:∃c,n=i+c:=⟨n - i,by omega⟩
 induction c with
 |zero=>rfl
 |succ c ih =>
  have m:=Qv4 l lo (show i+1<=i+c+1 by omega)
  have a:gd l lo w (i+c)=false:=by
   unfold gd;rw[zf (by omega),Bool.and_false]
  rw[show i+(c+1)=i+c+1 by omega,Ha,a,ih (by omega)];simp
def qW:MS:=(aD (aF 4 (ao aZ (aa 4) (aH jw (aj (ao gIx (ao gIx (aa 0) (aa 6)) (mC (.int 0))) aq))))
  (aD (bc (aJ (ao gNe (ao gIx (ao gIx (aa 0) (aa 6)) (mC (.int 0))) (mC (.str [32])))) (aF 5 (aa 4)) bj)
  (aD (bc (aJ (ao gGt (aa 5) (aa 2))) pF bj)
  (bc (cz (aH mR (aj (aa 0) (aj (ao aZ (aa 6) (mC (.int 1))) aq)))) (dq 3 (cG (aj (ao aZ (aa 6) (mC (.int 1))) (aj (aa 5) aq)))) bj))))
theorem Qtx(l:List LT)(lo k:Nat)(w:Int)(x:LT)(b:l[lo+k]?=some x)(acc:List D)(u:acc.length<=100000)(O:ak)(r:Option D):
  qW [some (.lst (l.map dL)),some (.int (lo:Int)),some (.int w),some (.lst acc),some (.int (wsum ((l.drop lo).take k))),some (.int (tw l lo k)),some (.int ((lo+k:Nat):Int))] O =
   if w<tw l lo (k+1) then .bk [some (.lst (l.map dL)),some (.int (lo:Int)),some (.int w),some (.lst acc),some (.int (wsum ((l.drop lo).take (k+1)))),some (.int (tw l lo (k+1))),some (.int ((lo+k:Nat):Int))] O
   else .nx [some (.lst (l.map dL)),some (.int (lo:Int)),some (.int w),some (.lst (acc++if gd l lo w k=true then[fD l lo k] else[])),some (.int (wsum ((l.drop lo).take (k+1)))),some (.int (tw l lo (k+1))),some (.int ((lo+k:Nat):Int))] O:=by
 have hi:lo+k<l.length:=(zl.mp b).1;have f:=ixs b;have g:gIx (dL x) (.int 0)=some (.str [x.1]):=rfl;have m:bG O (dL x)=dL x:=rfl;have h:wsum ((l.drop lo).take k)+wid x.1=wsum ((l.drop lo).take (k+1)):=(Qmj (by rw[List.getElem?_drop];exact b)).symm;have n:=Qq1 l (lo+k) hi O
 have i:((lo+k:Nat):Int)+1=1+((lo+k:Nat):Int):=by omega
 obtain⟨R,j⟩:∃R:MS,R=(aD (bc (aJ (ao gGt (aa 5) (aa 2))) pF bj)
  (bc (cz (aH mR (aj (aa 0) (aj (ao aZ (aa 6) (mC (.int 1))) aq)))) (dq 3 (cG (aj (ao aZ (aa 6) (mC (.int 1))) (aj (aa 5) aq)))) bj)):=⟨_,rfl⟩
 have pre:qW [some (.lst (l.map dL)),some (.int (lo:Int)),some (.int w),some (.lst acc),some (.int (wsum ((l.drop lo).take k))),some (.int (tw l lo k)),some (.int ((lo+k:Nat):Int))] O=R [some (.lst (l.map dL)),some (.int (lo:Int)),some (.int w),some (.lst acc),some (.int (wsum ((l.drop lo).take (k+1)))),some (.int (tw l lo (k+1))),some (.int ((lo+k:Nat):Int))] O:=by
  unfold qW;rw[<-j]
  by_cases c:x.1=32
  ·have q:gNe (.str [x.1]) (.str [32])=some (.bl false):=by rw[c];rfl
   rw[Oc b c];simp only[cu,jN,gM,jK,gk,gj,fL,m_c,zS,zW,aN,cT,cV,Bw,f,m,g,dR,qT,mL,h,jO,cW,jl,jm,jL,iz,q,iZ,jM,Bool.false_eq_true,if_false,jt]
  ·have q:gNe (.str [x.1]) (.str [32])=some (.bl true):=by simp[c]
   rw[Od b c];simp only[cu,jN,gM,jK,gk,gj,fL,m_c,zS,zW,aN,cT,cV,Bw,f,m,g,dR,qT,mL,h,jO,cW,jl,jm,jL,iz,q,iZ,jM,if_true]
 rw[pre,j]
 by_cases a:w<tw l lo (k+1)
 ·rw[if_pos a];have d:tw l lo (k+1)>w:=a;simp only[cu,jL,iz,gM,fL,zS,zW,aN,cV,v9,zj d,dR,iZ,jM,if_true];rfl
 ·rw[if_neg a];have d:¬tw l lo (k+1)>w:=a
  have hd:gd l lo w k=isB l (.int (1+((lo+k:Nat):Int))):=by
   unfold gd;rw[zj (by omega),Bool.and_true]
  rw[hd];simp only[cu,jL,iz,gM,fL,m_c,zS,zW,aN,cV,v9,zf d,dR,iZ,jM,Bool.false_eq_true,if_false,jt,cW,ou,jK,gk,gj,mL,i,n,p8,qd,qb]
  cases c:isB l (.int (1+((lo+k:Nat):Int))) with
  |false=>simp
  |true =>
   simp only[if_true,LR,BL,gk,gj,gM,fL,m_c,zS,zW,aN,cV,mL,i,dR,zw,zU,Nat.reduceAdd,Nat.reduceLeDiff];rw[Ma (ds:=acc) rfl (by omega)];rfl
theorem Og(l:List LT)(lo:Nat)(w:Int)(j:l.length<=1000)(O:ak):∀(m k:Nat) (c:Option D),lo+k+m=l.length ->
  ∃f d a,bK (mgN 6) qW (cH ((lo+k:Nat):Int) m) [some (.lst (l.map dL)),some (.int (lo:Int)),some (.int w),some (.lst ((fes l lo w k).map (fD l lo))),some (.int (wsum ((l.drop lo).take k))),some (.int (tw l lo k)),c] O=.nx [some (.lst (l.map dL)),some (.int (lo:Int)),some (.int w),some (.lst ((fes l lo w (l.length - lo)).map (fD l lo))),f,d,a] O
 | 0,k,c,h=>by
  rw[show l.length - lo=k by omega];exact⟨_,_,_,rfl⟩
 |m+1,k,c,h=>by
  have g:=zv (show lo+k<l.length by omega)
  have u:(fes l lo w k).length<=k:=by
   have:=List.length_filter_le (gd l lo w) (List.range k)
   rw[List.length_range] at this;exact this
  have t:=Qtx l lo k w _ g ((fes l lo w k).map (fD l lo)) (by rw[zd];omega) O c
  have r:cH ((lo+k:Nat):Int) (m+1)=.int ((lo+k:Nat):Int)::cH ((lo+(k+1):Nat):Int) m:=by
   unfold cH;rw[List.range_succ_eq_map,ze,zP,List.cons.injEq];refine⟨by simp,jc λi _=>?_⟩;show D.int (((lo+k:Nat):Int)+((i+1:Nat):Int))=D.int (((lo+(k+1):Nat):Int)+(i:Int));congr 1;omega
  rw[r];unfold bK;rw[mg_n];dsimp only;rw[show([some (.lst (l.map dL)),some (.int (lo:Int)),some (.int w),some (.lst ((fes l lo w k).map (fD l lo))),some (.int (wsum ((l.drop lo).take k))),some (.int (tw l lo k)),c]:az).set 6 (some (.int ((lo+k:Nat):Int)))=[some (.lst (l.map dL)),some (.int (lo:Int)),some (.int w),some (.lst ((fes l lo w k).map (fD l lo))),some (.int (wsum ((l.drop lo).take k))),some (.int (tw l lo k)),some (.int ((lo+k:Nat):Int))] from rfl,t]
  by_cases b:w<tw l lo (k+1)
  ·rw[if_pos b,Hb b (l.length - lo) (by omega)];exact⟨_,_,_,rfl⟩
  ·rw[if_neg b];obtain⟨f,d,a,q⟩:=Og l lo w j O m (k+1) (some (.int ((lo+k:Nat):Int))) (by omega);refine⟨f,d,a,?_⟩;dsimp only;rw[Ha,zK] at q;rw[<-q]
   by_cases n:gd l lo w k=true<;>simp[n]
theorem QsP(l:List LT)(lo:Nat)(w:Int)(a:l.length<=1000)(b:lo<=l.length)(O:ak):Cw [.lst (l.map dL),.int (lo:Int),.int w] O=.ok (.lst ((fes l lo w (l.length - lo)).map (fD l lo))) O:=by
 obtain⟨f,d,c,e⟩:=Og l lo w a O (l.length - lo) 0 none (by omega)
 have r:lX (aj (aa 1) (aj (aY bT (aj (aa 0) aq)) aq)) [some (.lst (l.map dL)),some (.int (lo:Int)),some (.int w),some (.lst []),some (.int 0),some (.int 0),none] O=.ok (cH (lo:Int) (l.length - lo)) O:=by
  have e:(aj (aa 1) (aj (aY bT (aj (aa 0) aq)) aq)) [some (.lst (l.map dL)),some (.int (lo:Int)),some (.int w),some (.lst []),some (.int 0),some (.int 0),none] O=.ok [.int (lo:Int),.int (l.length:Int)] O:=by
   simp
  rw[N8 e (by omega),show((l.length:Int) - (lo:Int)).toNat=l.length - lo by omega]
 have e':bK (mgN 6) qW (cH (lo:Int) (l.length - lo)) [some (.lst (l.map dL)),some (.int (lo:Int)),some (.int w),some (.lst []),some (.int 0),some (.int 0),none] O=_:=e;show bu (aD _ (aD _ (aD _ (aD (cA _ (mgN 6) qW) _))) [some (.lst (l.map dL)),some (.int (lo:Int)),some (.int w),none,none,none,none] O)=_;simp only[cu,jN,BK,gj,m_c,aN,zU,Nat.zero_le,if_true,jO,cW,jl,jm,gO,r,gP,e',ju,fL,zW,zS,vX,vY]
theorem dX{m:L2.M D}{ρ:az}{O a:ak}{d:D}(h:m ρ O=.ok d a):aV m ρ O=.rt d a:=by rw[ju,h];rfl
def ends(l:List LT)(lo:Nat)(w:Int):List (Nat×Int):=match fes l lo w (l.length - lo) with
 | []=>[(rch l lo w,wsum ((l.drop lo).take (rch l lo w - lo)))]
 |k::ks=>(k::ks).map λk=>(lo+k+1,tw l lo (k+1))
def dE(p:Nat×Int):D:=.tup [.int (p.1:Int),.int p.2]
theorem Qz3(l:List LT)(lo:Nat)(a:List Nat):a.map (fD l lo)=(a.map λk=>(lo+k+1,tw l lo (k+1))).map dE:=by
 rw[zP]
 refine jc λk _=>?_
 show D.tup [.int (1+((lo+k:Nat):Int)),.int (tw l lo (k+1))]=D.tup [.int ((lo+k+1:Nat):Int),.int (tw l lo (k+1))];rw[show 1+((lo+k:Nat):Int)=((lo+k+1:Nat):Int) by omega]
theorem Oh(l:List LT)(lo:Nat)(w:Int)(f:l.length<=1000)(a:lo<=l.length)(O:ak):ur [.lst (l.map dL),.int (lo:Int),.int w] O=.ok (.lst ((ends l lo w).map dE)) O:=by
 have b:=QsP l lo w f a O;unfold ends
 cases hf:fes l lo w (l.length - lo) with
 |nil =>
  rw[hf] at b;have i:=yo l lo w f a O;have m:=G7 l lo w a
  have c:du (l.map dL) (some (lo:Int)) (some (rch l lo w:Nat))=((l.drop lo).take (rch l lo w - lo)).map dL:=by
   rw[NP,List.map_take,List.map_drop]
  have j:=QvY ((l.drop lo).take (rch l lo w - lo)) (by rw[List.length_take,List.length_drop];omega) O;show bu (qm [some (.lst (l.map dL)),some (.int (lo:Int)),some (.int w),none,none] O)=_;unfold qm
  have d:¬(0:Int)>0:=by decide
  have h:bT [.lst []]=some (.int 0):=rfl;simp only[cu,jN,jK,gk,gj,fL,zS,zW,aN,b,zO,jO,cW,jl,jm,jL,iz,gM,mK,m_c,ze,cT,h,dR,cV,v9,zf d,iZ,jM,Bool.false_eq_true,if_false,jt,i,ju,BK,BL,qe,oF,m_g,Lh,oA,qg,c,j,zw,zU,Nat.reduceAdd,Nat.reduceLeDiff,if_true,vX,vY,zD];rfl
 |cons k ks =>
  rw[hf,Qz3] at b
  generalize hds:List.map dE ((k::ks).map λk=>(lo+k+1,tw l lo (k+1)))=g at b
  have n:0<g.length:=by rw[<-hds,zd,zd,zw];omega
  have d:(g.length:Int)>0:=by omega
  show bu (qm [some (.lst (l.map dL)),some (.int (lo:Int)),some (.int w),none,none] O)=_;unfold qm;simp only[cu,jN,jK,gk,gj,fL,zS,zW,aN,b,zO,jO,cW,jl,jm,jL,iz,gM,mK,m_c,ze,cT,wj,dR,cV,v9,zj d,iZ,jM,if_true,ju,vX,ZQ,vY]
def cst(l:List LT)(w:Int)(p:Nat×Int):Int:=if p.1=l.length then 0 else(w - p.2) * (w - p.2)
def strN(n:Nat):List Nat:=(Nat.toDigits 10 n).map Char.toNat
def mvE(l:List LT)(w:Int)(p:Nat×Int):D:=.tup [.int (cst l w p),.str (strN p.1),.tup [.int (p.1:Int),.int 0]]
theorem Qw9(n:Nat)(h:n<1000000000):pW [.int (n:Int)]=some (.str (strN n)):=by
 unfold pW;dsimp only;rw[if_pos ⟨by omega,by omega⟩,Int.toNat_natCast];rfl
theorem Oi{l:List LT}{lo:Nat}{w:Int}(b:∀j,lo+j+1<=l.length->gd l lo w j=false):∀(n m:Nat),lo+m+1+n=l.length->(∃x,l[lo+m]?=some x/\x.1=32)->tw l lo (m+1)<=w->False
 | 0,m,h,_,ht=>by
  have g:=b m (by omega);unfold gd at g;rw[G9 (l:=l) (i:=lo+m) (by omega),zj ht] at g;cases g
 |n+1,m,h,⟨x,hx,hx2⟩,ht=>by
  obtain⟨q,y,d,c,f⟩:=G8 (l:=l) (i:=lo+m) (by omega);rw[hx] at d;cases d
  by_cases a:y.1=32
  ·refine Oi b n (m+1) (by omega) ⟨y,by rw[<-Nat.add_assoc];exact c,a⟩ ?_;rw[Oc (l:=l) (lo:=lo) (k:=m+1) (x:=y) (by rw[<-Nat.add_assoc];exact c) a];exact ht
  ·have g:=b m (by omega);unfold gd at g;rw[f,zj hx2,zf a,zj ht] at g;cases g
theorem Oj{l:List LT}{lo:Nat}{w:Int}{n k:Nat}:k∈fes l lo w n↔k<n/\gd l lo w k=true:=by
 unfold fes;rw[List.mem_filter,List.mem_range]
theorem gQ{l:List LT}{lo:Nat}{w:Int}(f:lo<l.length)(hw:2<=w):∀p∈ends l lo w,lo<p.1/\p.1<=l.length/\0<=p.2/\p.2<=w/\p.2=tw l lo (p.1 - lo):=by
 intro p a;unfold ends at a
 cases hf:fes l lo w (l.length - lo) with
 |nil =>
  rw[hf] at a;rw[zk.mp a]
  have q:∀j,lo+j+1<=l.length->gd l lo w j=false:=λj c=>by
   cases hg:gd l lo w j with
   |false=>rfl
   |true =>
    have:j∈fes l lo w (l.length - lo):=Oj.mpr ⟨by omega,hg⟩
    rw[hf] at this;exact nomatch this
  have n:=N7 l lo w f hw;have i:=G7 l lo w (by omega)
  have h:rch l lo w - lo=bZ (l.drop lo) w:=by unfold rch;omega
  have b:=yp (l.drop lo) w (rch l lo w - lo) (by omega) (by omega);refine⟨n,i,uL _,b,?_⟩;obtain⟨m,r⟩:∃m,rch l lo w - lo=m+1:=⟨rch l lo w - lo - 1,by omega⟩
  have d:lo+m<l.length:=by omega
  have ex:=zv d;show wsum ((l.drop lo).take (rch l lo w - lo))=tw l lo (rch l lo w - lo);rw[r] at b ⊢
  generalize l[lo+m]=x at ex
  by_cases g:x.1=32
  ·exfalso
   exact Oi q (l.length - (lo+m+1)) m (by omega) ⟨x,ex,g⟩ (Int.le_trans (Oe l lo (m+1)) b)
  ·exact(Od ex g).symm
 |cons k ks =>
  rw[hf] at a;obtain⟨j,c,rfl⟩:=zx.mp a;rw[<-hf] at c;obtain⟨h1,h2⟩:=Oj.mp c;unfold gd at h2;rw[zu] at h2;have h3:=jh h2.2;refine⟨by show lo<lo+j+1;omega,by show lo+j+1<=_;omega,uL _,h3,?_⟩;show tw l lo (j+1)=tw l lo (lo+j+1 - lo);rw[show lo+j+1 - lo=j+1 by omega]
theorem Hc(l:List LT)(lo:Nat)(w:Int):(ends l lo w).length<=l.length+1:=by
 unfold ends
 have h:(fes l lo w (l.length - lo)).length<=l.length - lo:=by
  unfold fes
  have:=List.length_filter_le (gd l lo w) (List.range (l.length - lo))
  rwa [List.length_range] at this
 cases hf:fes l lo w (l.length - lo) with
 |nil=>exact Nat.le_add_left _ _
 |cons k ks =>
  rw[hf] at h;dsimp only;rw[zd];omega
theorem Ol{a:List Str}{f c:Str}{m:L2.M D}{ρ:az}{O:ak}{n:Nat}{y:D}{fs:List (Str×D)}(d:m ρ O=.ok (.ob n) O)(h:O[n]?=some (.ins c fs))(g:c∈a)(b:fs.lookup f=some y):
  fP a f m ρ O=.ok y O:=by
 rw[Z4,d,aN];unfold LQ;dsimp only;rw[h];dsimp only;rw[if_pos g,b]
theorem lF{c m:Str}{b:List D->ak->Res D}{mo:L2.M D}{a:L2.M (List D)}{ρ:az}{O:ak}{n:Nat}{ds:List D}{fs:List (Str×D)}(d:mo ρ O=.ok (.ob n) O)(h:O[n]?=some (.ins c fs))(f:(fs.lookup m).isNone=true)(g:a ρ O=.ok ds O):
  cI c m b mo a ρ O=b (.ob n::ds) O:=by
 rw[Z7,d,aN];unfold meF;dsimp only;rw[h];dsimp only;rw[if_pos ⟨rfl,f⟩,g,aN]
theorem lG{m:L2.M (List D)}{own:Nat}{cap:List Nat}{g:MG}{t:L2.M Bool}{e:L2.M D}{ρ ρ0:az}{O:ak}{ds ys:List D}(h:m ρ O=.ok ds O)(a:ds.length<=1000000)(h0:iu own cap ρ=ρ0)(b:cZ g t e ds ρ0 O []=.ok ys O):c7 m own cap g t e ρ O=.ok (.lst ys) O:=by
 rw[BR,h,aN,if_pos a,h0,b,aN]
theorem fW{m:L2.M D}{ρ:az}{O:ak}{l:List D}(h:m ρ O=.ok (.lst l) O):bY m ρ O=.ok l O:=by
 rw[BP,h,aN,Lx,Lw]
theorem sq{a b:MS}{ρ ρ':az}{O c:ak}(h:a ρ O=.nx ρ' c):aD a b ρ O=b ρ' c:=by
 rw[cu,h,cW]
theorem oV{i:Nat}{m:L2.M D}{ρ:az}{O a:ak}{d:D}(h:m ρ O=.ok d a):aF i m ρ O=.nx (ρ.set i (some d)) a:=by
 rw[jN,h,jO]
abbrev Nd:=Int×Int
def nN(n:Nd):D:=.tup [.int n.1,.int n.2]
def key(n:Nd):List Key:=[.inl n.1,.inl n.2]
structure M3 where
 cost:Int
 name:List Nat
 other:Nd
def d3(m:M3):D:=.tup [.int m.cost,.str m.name,nN m.other]
def oD:Option Int->D
 |none=>.non
 |some i=>.int i
abbrev Tb:=List (Nd×Option Int)
def tab(ps:Tb):List (List Key×D):=ps.map λx=>(key x.1,oD x.2)
def lk(ps:Tb)(n:Nd):Option (Option Int):=(ps.find? λx=>decide (x.1=n)).map (·.2)
def pu(ps:Tb)(n:Nd)(v:Option Int):Tb:=if(ps.any λx=>decide (x.1=n))=true then ps.map (λx=>if x.1=n then(x.1,v) else x) else ps++[(n,v)]
theorem uM(n:Nd):tU (nN n)=some (key n):=rfl
theorem uN{a b:Nd}:key a=key b↔a=b:=by
 obtain⟨a1,a2⟩:=a;obtain⟨d,c⟩:=b;unfold key;simp
theorem Om(n:Nd):∀ps:Tb,gH (tab ps) (key n)=(lk ps n).map oD
 | []=>rfl
 |x::ps=>by
  have a:=Om n ps;unfold gH lk tab at *;rw[ze,List.find?_cons,List.find?_cons]
  by_cases h:x.1=n
  ·simp[h]
  ·have h':¬key x.1=key n:=λz=>h (uN.mp z)
   simp only[h,h',decide_false];exact a
theorem Oo(n:Nd):∀ps:Tb,((tab ps).any λp=>decide (p.1=key n))=ps.any λx=>decide (x.1=n)
 | []=>rfl
 |x::ps=>by
  have a:=Oo n ps;unfold tab at *;rw[ze,List.any_cons,List.any_cons,a];congr 1;exact decide_eq_decide.mpr uN
theorem QwN(ps:Tb)(n:Nd)(v:Option Int):nY (tab ps) (key n) (oD v)=tab (pu ps n v):=by
 unfold nY pu;rw[Oo]
 split
 ·unfold tab;rw[zP,zP]
  refine jc λx _=>?_
  by_cases h:x.1=n
  ·simp[h]
  ·have h':¬key x.1=key n:=λz=>h (uN.mp z)
   simp[h,h']
 ·unfold tab;rw[zK];rfl
theorem Hd{n:Nd}:∀{ps:Tb},(ps.any λx=>decide (x.1=n))=false->lk ps n=none
 | [],_=>rfl
 |x::ps,h=>by
  rw[List.any_cons,Bool.or_eq_false_iff] at h
  have:=Hd h.2
  unfold lk at *;rw[List.find?_cons,h.1];exact this
theorem qX(x:Nd×Option Int)(ps:Tb)(n:Nd):lk (x::ps) n=if x.1=n then some x.2 else lk ps n:=by
 unfold lk;rw[List.find?_cons]
 by_cases h:x.1=n
 ·simp[h]
 ·simp[h]
theorem Oq(n:Nd)(y:Nd×Option Int):∀ps:Tb,lk (ps++[y]) n=if(lk ps n).isSome=true then lk ps n else if y.1=n then some y.2 else none
 | []=>by
  rw[zD,qX];rfl
 |x::ps=>by
  rw[List.cons_append,qX,qX,Oq n y ps]
  by_cases h:x.1=n
  ·simp[h]
  ·simp[h]
theorem Ot(n m:Nd)(v:Option Int):∀ps:Tb,lk (ps.map λx=>if x.1=n then(x.1,v) else x) m=if m=n then(lk ps m).map λ_=>v else lk ps m
 | []=>by simp[lk]
 |x::ps=>by
  rw[ze,qX,qX,Ot n m v ps]
  by_cases h:x.1=n
  ·by_cases b:m=n
   ·subst b;simp[h]
   ·have:¬n=m:=λz=>b z.symm
    simp[h,b,this]
  ·by_cases a:x.1=m
   ·have:¬m=n:=λz=>h (a.trans z)
    simp[h,a,this]
   ·simp[h,a]
theorem Ou{n:Nd}:∀{ps:Tb},(ps.any λx=>decide (x.1=n))=true->(lk ps n).isSome=true
 |x::ps,h=>by
  rw[qX]
  by_cases a:x.1=n
  ·simp[a]
  ·rw[if_neg a];rw[List.any_cons,zf a,Bool.false_or] at h;exact Ou h
theorem Ov(ps:Tb)(n m:Nd)(v:Option Int):lk (pu ps n v) m=if m=n then some v else lk ps m:=by
 unfold pu
 split
 ·rename_i h;rw[Ot]
  split
  ·rename_i a;subst a
   have:=Ou h
   cases e:lk ps m with
   |none=>rw[e] at this;cases this
   |some w=>rfl
  ·rfl
 ·rename_i h;have h0:=Hd (Bool.eq_false_iff.mpr h);rw[Oq]
  by_cases a:m=n
  ·subst a;simp[h0]
  ·have:¬n=m:=λz=>a z.symm
   simp[a,this]
   cases lk ps m<;>simp
theorem QvG(ps:Tb)(n:Nd)(v:Option Int):(pu ps n v).length<=ps.length+1:=by
 unfold pu
 split
 ·rw[zd];omega
 ·rw[zn];exact zb _
theorem QvS{ps:Tb}{n:Nd}{v:Option Int}(h:(lk ps n).isSome=true):(pu ps n v).length=ps.length:=by
 unfold pu
 split
 ·rw[zd]
 ·rename_i a;rw[Hd (Bool.eq_false_iff.mpr a)] at h;cases h
theorem Hf{mo my:L2.M D}{ρ:az}{O:ak}{p:Nat}{ps:Tb}{n:Nd}{v:Option Int}(h1:mo ρ O=.ok (.ob p) O)(h2:O[p]?=some (.dt (tab ps)))(h3:my ρ O=.ok (nN n) O)(h4:lk ps n=some v):dH mo my ρ O=.ok (oD v) O:=by
 unfold dH;rw[h1];dsimp only[aN];rw[h3];dsimp only[aN];unfold tsG;rw[uM,h2];dsimp only;unfold tsF;rw[uM,h2];dsimp only;rw[Om,h4];rfl
theorem Ox{mo my a:L2.M D}{ρ:az}{O:ak}{p:Nat}{ps:Tb}{n:Nd}{v:Option Int}(h0:a ρ O=.ok (oD v) O)(h1:mo ρ O=.ok (.ob p) O)(h2:O[p]?=some (.dt (tab ps)))(h3:my ρ O=.ok (nN n) O)(b:ps.length<1000000):gJ mo my a ρ O=.nx ρ (O.set p (.dt (tab (pu ps n v)))):=by
 unfold gJ;rw[h0];dsimp only;rw[h1];dsimp only;rw[h3];dsimp only;rw[uM,h2];dsimp only;rw[if_pos (by unfold tab;rw[zd];exact b),QwN]
def co(ps:Tb)(m:M3):Option Int:=match lk ps m.other with
 |some (some b)=>some (m.cost+b)
 | _=>none
def lc(ps:Tb)(ms:List M3):Option Int:=mdI none (ms.filterMap (co ps))
theorem Oz{O:ak}{p:Nat}{ps:Tb}{m:M3}(d:O[p]?=some (.dt (tab ps)))(f:(lk ps m.other).isSome=true):kY [d3 m,.ob p] O=.ok (oD (co ps m)) O:=by
 obtain⟨v,a⟩:=Option.isSome_iff_exists.mp f;have c:dH (mG (aa 1)) (ao gIx (aa 0) (mC (.int 2))) [some (d3 m),some (.ob p),none] O=.ok (oD v) O:=Hf rfl d (bx rfl rfl rfl) a;show bu (wD [some (d3 m),some (.ob p),none] O)=_;unfold wD;rw[sq (bw c),ju];unfold co;rw[a]
 cases v with
 |none=>rfl
 |some b=>rfl
theorem ints_map:∀is:List Int,eY (is.map D.int)=some is
 | []=>rfl
 |i::is=>by
  show(eY (is.map D.int)).map (i :: ·)=_;rw[ints_map is];rfl
theorem OD(ps:Tb):∀ms:List M3,(ms.map λm=>oD (co ps m)).filter (λd=>!isNon d)=(ms.filterMap (co ps)).map D.int
 | []=>rfl
 |m::ms=>by
  rw[ze,List.filter_cons,List.filterMap_cons,OD ps ms]
  cases co ps m<;>rfl
theorem OJ{O:ak}{p:Nat}{ps:Tb}{ms:List M3}(g:O[p]?=some (.dt (tab ps)))(h:∀m∈ms,(lk ps m.other).isSome=true)(l:ms.length<=1000):oJ [.lst (ms.map d3),.ob p] O=.ok (oD (lc ps ms)) O:=by
 have j:cZ (mgN 0) cQ (aH kY (aj (aa 0) (aj (aa 1) aq))) (ms.map d3) [none,some (.ob p)] O []=.ok (ms.map λm=>oD (co ps m)) O:=by
  rw[kW (λρ=>∃a,ρ=[a,some (.ob p)]) d3 (λm=>oD (co ps m)) ms _ _ _ ⟨none,rfl⟩ (by
   rintro m hm' ρ ⟨a,rfl⟩
   exact⟨_,rfl,⟨_,rfl⟩,rfl,(bz (maS rfl (ma1 rfl))).trans (Oz g (h m hm'))⟩)]
  rw[zD]
 have f:c7 (bY (aa 0)) 1 [1] (mgN 0) cQ (aH kY (aj (aa 0) (aj (aa 1) aq))) [some (.lst (ms.map d3)),some (.ob p),none] O=.ok (.lst (ms.map λm=>oD (co ps m))) O:=lG (fW rfl) (by rw[zd];omega) rfl j
 have i:cZ (mgN 0) (aJ (iJ (aa 0))) (aa 0) (ms.map λm=>oD (co ps m)) [none] O []=.ok ((ms.filterMap (co ps)).map D.int) O:=by
  rw[LC (λρ=>∃a,ρ=[a]) (λd=>!isNon d) _ _ _ _ ⟨none,rfl⟩ (by
   rintro d hd ρ ⟨a,rfl⟩
   exact⟨_,rfl,⟨_,rfl⟩,rfl,rfl⟩)]
  rw[zD,OD]
 have c:c7 (bY (aa 2)) 1 [] (mgN 0) (aJ (iJ (aa 0))) (aa 0) [some (.lst (ms.map d3)),some (.ob p),some (.lst (ms.map λm=>oD (co ps m)))] O=.ok (.lst ((ms.filterMap (co ps)).map D.int)) O:=lG (fW rfl) (by rw[zd];omega) rfl i
 have b:aY vR (aj (c7 (bY (aa 2)) 1 [] (mgN 0) (aJ (iJ (aa 0))) (aa 0)) aq) [some (.lst (ms.map d3)),some (.ob p),some (.lst (ms.map λm=>oD (co ps m)))] O=.ok (oD (lc ps ms)) O:=lE (ma1 c) (by
  show(eY ((ms.filterMap (co ps)).map D.int)).map _=_;rw[ints_map];show some (match mdI none (ms.filterMap (co ps)) with | some m=>D.int m | none=>D.non)=some (oD (mdI none (ms.filterMap (co ps))))
  cases mdI none (ms.filterMap (co ps))<;>rfl)
 show bu (wG [some (.lst (ms.map d3)),some (.ob p),none] O)=_;unfold wG;rw[sq (bw f),ju];exact congrArg (λr=>bu (oG r)) b
theorem O5{ps a:Tb}:∀{ms:List M3},(∀m∈ms,lk a m.other=lk ps m.other)->ms.filterMap (co a)=ms.filterMap (co ps)
 | [],_=>rfl
 |m::ms,h=>by
  have e:co a m=co ps m:=by
   unfold co;rw[h m zp]
  rw[List.filterMap_cons,List.filterMap_cons,e,O5 λx b=>h x (zt _ b)]
theorem yq{ps a:Tb}{ms:List M3}(h:∀m∈ms,lk a m.other=lk ps m.other):lc a ms=lc ps ms:=by
 unfold lc;rw[O5 h]
structure Trl(t:Nat)(fs:List (Str×D))(N:Nat)(nodes:Nat->List Nd)(mv:Nd->List M3)(fin:Nd->Bool):Prop where
 na:∀(O:ak) (a:Nat),O[t]?=some (.ins "Even" fs)->a<=N->qt [.ob t,.int a] O=.ok (.lst ((nodes a).map nN)) O
 mf:∀(O:ak) (a:Nat) (n:Nd),O[t]?=some (.ins "Even" fs)->a<=N->n∈nodes a->jQ [.ob t,nN n] O=.ok (.lst ((mv n).map d3)) O
 ie:∀(O:ak) (a:Nat) (n:Nd),O[t]?=some (.ins "Even" fs)->a<=N->n∈nodes a->iD [.ob t,nN n] O=.ok (.bl (fin n)) O
 la:∀O:ak,O[t]?=some (.ins "Even" fs)->ux [.ob t] O=.ok (.int N) O
 fi:∀O:ak,O[t]?=some (.ins "Even" fs)->uz [.ob t] O=.ok (nN (0,0)) O
 f0:((0,0):Nd)∈nodes 0
 nd:∀a,(nodes a).Nodup
 ln:∀a,(nodes a).length<=1
 fw:∀(a:Nat) (n:Nd),a<=N->n∈nodes a->∀m∈mv n,∃b,a<b/\b<=N/\m.other∈nodes b
 sp:∀(a b:Nat) (n:Nd),n∈nodes a->n∈nodes b->a=b
 ml:∀n,(mv n).length<=1000
 fe:∀n,fin n=true->mv n=[]
 u1:(fs.lookup ("nodes_at":Str)).isNone=true
 u2:(fs.lookup ("moves_from":Str)).isNone=true
 u3:(fs.lookup ("is_end":Str)).isNone=true
 u4:(fs.lookup ("last_at":Str)).isNone=true
 u5:(fs.lookup ("first_node":Str)).isNone=true
 hN:N<=1000
def cB(a:Nd->List M3)(ns:List Nd):List (List Key×D):=ns.map λn=>(key n,D.lst ((a n).map d3))
theorem O7(a:Nd->List M3)(n:Nd):∀ns:List Nd,((cB a ns).any λp=>decide (p.1=key n))=decide (n∈ns)
 | []=>rfl
 |x::ns=>by
  have b:=O7 a n ns;unfold cB at *;rw[ze,List.any_cons,b]
  by_cases h:x=n
  ·subst h;simp
  ·have h1:¬key x=key n:=λz=>h (uN.mp z)
   have h2:¬n=x:=λz=>h z.symm
   simp[h1,h2]
theorem QtI{a:Nd->List M3}{ns:List Nd}{n:Nd}(h:n∉ns):nY (cB a ns) (key n) (.lst ((a n).map d3))=cB a (ns++[n]):=by
 unfold nY;rw[O7,zf h,if_neg zh];unfold cB;rw[zK];rfl
theorem O8(a:Nd->List M3)(n:Nd):∀ns:List Nd,n∈ns->gH (cB a ns) (key n)=some (.lst ((a n).map d3))
 |x::ns,h=>by
  unfold gH cB;rw[ze,List.find?_cons]
  by_cases b:x=n
  ·subst b;simp
  ·have h1:¬key x=key n:=λz=>b (uN.mp z)
   simp only[h1,decide_false]
   rcases zo.mp h with rfl | h
   ·exact absurd rfl b
   ·exact O8 a n ns h
theorem Qry(a:Nd->List M3)(ns:List Nd):(cB a ns).map Bt=ns.map nN:=by
 unfold cB;rw[zP];rfl
def B_1:MS:=(aD (gJ (aa 3) (aa 4) (cI "Even" "moves_from" jQ (mG (aa 0)) (aj (aa 4) aq)))
  (gJ (mG (aa 2)) (aa 4) (mIf (cz (cI "Even" "is_end" iD (mG (aa 0)) (aj (aa 4) aq))) (mC (.int 0)) (mC .non))))
def ini(a:Nd->Bool)(n:Nd):Option Int:=if a n=true then some 0 else none
theorem uO{O:ak}{i j:Nat}{x y:Ob}(h1:O[i]?=some x)(h2:O[j]?=some y)(h:x≠y):i≠j:=λz=>by
 rw[z,h2] at h1;exact h (zB h1).symm
theorem uP{O:ak}{i:Nat}{x y:Ob}(e:O[i]?=some x):(O.set i y)[i]?=some y:=by
 obtain⟨h,_⟩:=zl.mp e;simp[h]
section
variable {t:Nat}{fs:List (Str×D)}{N:Nat}{nodes:Nat->List Nd}{mv:Nd->List M3}{fin:Nd->Bool}{p q:Nat}
theorem QtN(T:Trl t fs N nodes mv fin){a:Nat}(u:a<=N){n:Nd}(r:n∈nodes a){pre:List Nd}(i:n∉pre){O:ak}{d:Tb}(f:O[t]?=some (.ins "Even" fs))(m:O[p]?=some (.dt (tab d)))(l:O[q]?=some (.dt (cB mv pre)))(g:p≠q)(B:d.length<1000000)(j:pre.length<1000000)(c b:Option D):
  B_1 [some (.ob t),some (.int a),some (.ob p),some (.ob q),some (nN n),c,b] O=.nx [some (.ob t),some (.int a),some (.ob p),some (.ob q),some (nN n),c,b] ((O.set q (.dt (cB mv (pre++[n])))).set p (.dt (tab (pu d n (ini fin n))))):=by
 have x:t≠q:=uO f l (λz=>nomatch z);have G:t≠p:=uO f m (λz=>nomatch z);have F:cI "Even" "moves_from" jQ (mG (aa 0)) (aj (aa 4) aq) [some (.ob t),some (.int a),some (.ob p),some (.ob q),some (nN n),c,b] O=.ok (.lst ((mv n).map d3)) O:=(lF rfl f T.u2 (ma1 rfl)).trans (T.mf O a n f u r)
 have y:gJ (aa 3) (aa 4) (cI "Even" "moves_from" jQ (mG (aa 0)) (aj (aa 4) aq)) [some (.ob t),some (.int a),some (.ob p),some (.ob q),some (nN n),c,b] O=.nx [some (.ob t),some (.int a),some (.ob p),some (.ob q),some (nN n),c,b] (O.set q (.dt (cB mv (pre++[n])))):=by
  unfold gJ;rw[F];dsimp only;rw[show(aa 3) [some (.ob t),some (.int a),some (.ob p),some (.ob q),some (nN n),c,b] O=.ok (.ob q) O from rfl];dsimp only;rw[show(aa 4) [some (.ob t),some (.int a),some (.ob p),some (.ob q),some (nN n),c,b] O=.ok (nN n) O from rfl];dsimp only;rw[uM,l];dsimp only;rw[if_pos (by unfold cB;rw[zd];exact j),QtI i]
 have ht':(O.set q (.dt (cB mv (pre++[n]))))[t]?=some (.ins "Even" fs):=by rw[zm (Ne.symm x)];exact f
 have h:(O.set q (.dt (cB mv (pre++[n]))))[p]?=some (.dt (tab d)):=by rw[zm (Ne.symm g)];exact m
 have E:cI "Even" "is_end" iD (mG (aa 0)) (aj (aa 4) aq) [some (.ob t),some (.int a),some (.ob p),some (.ob q),some (nN n),c,b] (O.set q (.dt (cB mv (pre++[n]))))=.ok (.bl (fin n)) (O.set q (.dt (cB mv (pre++[n])))):=(lF rfl ht' T.u3 (ma1 rfl)).trans (T.ie _ a n ht' u r)
 have C:mIf (cz (cI "Even" "is_end" iD (mG (aa 0)) (aj (aa 4) aq))) (mC (.int 0)) (mC .non) [some (.ob t),some (.int a),some (.ob p),some (.ob q),some (nN n),c,b] (O.set q (.dt (cB mv (pre++[n]))))=.ok (oD (ini fin n)) (O.set q (.dt (cB mv (pre++[n])))):=by
  rw[BJ,ou,E,aN,p8,qd,qb,aN];unfold ini
  cases fin n<;>rfl
 unfold B_1;rw[sq y];exact Ox C rfl h rfl B
theorem O9(T:Trl t fs N nodes mv fin){a:Nat}(E:a<=N)(f:p≠q)(i h:Option D):∀(rest pre:List Nd) (O:ak) (b:Tb) (l:Option D),(∀n∈rest,n∈nodes a)->(pre++rest).Nodup->O[t]?=some (.ins "Even" fs)->O[p]?=some (.dt (tab b))->O[q]?=some (.dt (cB mv pre))->b.length+rest.length<1000000->pre.length+rest.length<1000000 ->
  ∃d c g,bK (mgN 4) B_1 (rest.map nN) [some (.ob t),some (.int a),some (.ob p),some (.ob q),l,i,h] O=.nx [some (.ob t),some (.int a),some (.ob p),some (.ob q),g,i,h] d/\d[p]?=some (.dt (tab c))/\d[q]?=some (.dt (cB mv (pre++rest)))/\(∀j,j≠p->j≠q->d[j]?=O[j]?)/\(∀n,lk c n=if n∈rest then some (ini fin n) else lk b n)/\c.length<=b.length+rest.length
 | [],pre,O,b,l,_,_,_,hp,hq,_,_=>⟨O,b,l,rfl,hp,by rw[zH];exact hq,λ_ _ _=>rfl,λn=>by simp,zb _⟩
 |n::rest,pre,O,b,l,hr,hd,ht,hp,hq,hl,hl2=>by
  rw[zw] at hl hl2;have H:=hr n zp
  have y:n∉pre:=λz=>(jo.mp hd).2.2 n z n zp rfl
  have x:n∉rest:=λz=>(List.nodup_cons.mp (jo.mp hd).2.1).1 z
  have I:=QtN T E H y ht hp hq f (by omega) (by omega) i h;have F:t≠q:=uO ht hq (λz=>nomatch z);have G:t≠p:=uO ht hp (λz=>nomatch z);have J:=QvG b n (ini fin n);obtain⟨d,c,g,e,h1,h2,h3,h4,L⟩:=O9 T E f i h rest (pre++[n]) ((O.set q (.dt (cB mv (pre++[n])))).set p (.dt (tab (pu b n (ini fin n))))) (pu b n (ini fin n)) (some (nN n)) (λm u=>hr m (zt _ u)) (by rw[zI];exact hd)
   (by rw[zm (Ne.symm G),zm (Ne.symm F)];exact ht) (uP (by rw[zm (Ne.symm f)];exact hp)) (by rw[zm f];exact uP hq) (by omega) (by rw[zn,zV];omega)
  refine⟨d,c,g,?_,h1,by rw[zI] at h2;exact h2,λj C B=>?_,λm=>?_,by rw[zw];omega⟩
  ·rw[ze];unfold bK;rw[mg_n];dsimp only
   show(match B_1 [some (.ob t),some (.int a),some (.ob p),some (.ob q),some (nN n),i,h] O with
    | .nx ρ' d=>bK _ _ (rest.map nN) ρ' d | .ct ρ' d=>bK _ _ (rest.map nN) ρ' d | .bk ρ' d=>Fl.nx ρ' d | r=>r)=_
   rw[I];exact e
  ·rw[h3 j C B,zm (Ne.symm C),zm (Ne.symm B)]
  ·rw[h4 m,Ov]
   by_cases u:m=n
   ·subst u;simp[x]
   ·simp[u]
end
theorem QxQ{mo my:L2.M D}{ρ:az}{O:ak}{q:Nat}{a:List (List Key×D)}{n:Nd}{d:D}(h1:mo ρ O=.ok (.ob q) O)(h2:O[q]?=some (.df a))(h3:my ρ O=.ok (nN n) O)(h4:gH a (key n)=some d):dH mo my ρ O=.ok d O:=by
 unfold dH;rw[h1];dsimp only[aN];rw[h3];dsimp only[aN];unfold tsG;rw[uM,h2];dsimp only;rw[h4]
def B_r:MS:=(aD (aF 6 (aH oJ (aj (dH (aa 3) (aa 4)) (aj (aa 2) aq))))
  (bc (eV (aJ (iJ (aa 6))) (dJ (aJ (jF (dH (mG (aa 2)) (aa 4)))) (aJ (ao gLt (aa 6) (dH (mG (aa 2)) (aa 4)))))) (aD (gJ (mG (aa 2)) (aa 4) (aa 6))
  (aF 5 (mC (.bl true)))) bj))
def better(v L:Option Int):Bool:=match L with
 |none=>false
 |some c=>match v with
  |none=>true
  |some w=>decide (c<w)
section
variable {t:Nat}{fs:List (Str×D)}{N:Nat}{nodes:Nat->List Nd}{mv:Nd->List M3}{fin:Nd->Bool}{p q:Nat}
theorem Qyn{ns:List Nd}{n:Nd}(C:n∈ns){O:ak}{a:Tb}{v:Option Int}(j:O[p]?=some (.dt (tab a)))(B:O[q]?=some (.df (cB mv ns)))(hv:lk a n=some v)(E:∀m∈mv n,(lk a m.other).isSome=true)(l:(mv n).length<=1000)(F:a.length<1000000)(b:Bool)(d a1 i:Option D):
  B_r [d,a1,some (.ob p),some (.ob q),some (nN n),some (.bl b),i] O=.nx [d,a1,some (.ob p),some (.ob q),some (nN n),some (.bl (b || better v (lc a (mv n)))),some (oD (lc a (mv n)))] (if better v (lc a (mv n))=true then O.set p (.dt (tab (pu a n (lc a (mv n))))) else O):=by
 have z:dH (aa 3) (aa 4) [d,a1,some (.ob p),some (.ob q),some (nN n),some (.bl b),i] O=.ok (.lst ((mv n).map d3)) O:=QxQ rfl B rfl (O8 mv n ns C);have y:aH oJ (aj (dH (aa 3) (aa 4)) (aj (aa 2) aq)) [d,a1,some (.ob p),some (.ob q),some (nN n),some (.bl b),i] O=.ok (oD (lc a (mv n))) O:=(bz (maS z (ma1 rfl))).trans (OJ j E l)
 have u:∀g:Option D,dH (mG (aa 2)) (aa 4) [d,a1,some (.ob p),some (.ob q),some (nN n),some (.bl b),g] O=.ok (oD v) O:=λg=>Hf rfl j rfl hv
 unfold B_r;rw[sq (bw y)];show bc _ _ _ [d,a1,some (.ob p),some (.ob q),some (nN n),some (.bl b),some (oD (lc a (mv n)))] O=_
 cases hL:lc a (mv n) with
 |none =>
  refine(dh ?_).trans ?_
  ·rw[mJ];rfl
  ·show Fl.nx _ O=_;simp[better]
 |some c =>
  have f:(aD (gJ (mG (aa 2)) (aa 4) (aa 6)) (aF 5 (mC (.bl true)))) [d,a1,some (.ob p),some (.ob q),some (nN n),some (.bl b),some (oD (some c))] O=.nx [d,a1,some (.ob p),some (.ob q),some (nN n),some (.bl true),some (oD (some c))] (O.set p (.dt (tab (pu a n (some c))))):=by
   rw[sq (Ox (v:=some c) rfl rfl j rfl F)];rfl
  have r:aJ (iJ (aa 6)) [d,a1,some (.ob p),some (.ob q),some (nN n),some (.bl b),some (oD (some c))] O=.ok true O:=rfl
  have tB:aJ (jF (dH (mG (aa 2)) (aa 4))) [d,a1,some (.ob p),some (.ob q),some (nN n),some (.bl b),some (oD (some c))] O=.ok (isNon (oD v)) O:=by
   rw[iz,ZL,u,aN,aN,iZ]
  cases v with
  |none =>
   refine(dU ?_).trans ?_
   ·rw[mJ,r,aN,if_pos rfl,tZ,tB,aN];rfl
   ·rw[f];simp[better]
  |some w =>
   have tC:aJ (ao gLt (aa 6) (dH (mG (aa 2)) (aa 4))) [d,a1,some (.ob p),some (.ob q),some (nN n),some (.bl b),some (oD (some c))] O=.ok (decide (c<w)) O:=fB (bx (x:=.int c) rfl (u _) rfl)
   have h:eV (aJ (iJ (aa 6))) (dJ (aJ (jF (dH (mG (aa 2)) (aa 4)))) (aJ (ao gLt (aa 6) (dH (mG (aa 2)) (aa 4))))) [d,a1,some (.ob p),some (.ob q),some (nN n),some (.bl b),some (oD (some c))] O=.ok (decide (c<w)) O:=by
    rw[mJ,r,aN,if_pos rfl,tZ,tB,aN];exact tC
   by_cases hw:c<w
   ·rw[zj hw] at h;rw[dU h,f];simp[better,hw]
   ·rw[zf hw] at h;rw[dh h];show Fl.nx _ O=_;simp[better,hw]
def fnl(fin:Nd->Bool)(L:Nd->Option Int)(n:Nd):Option Int:=if fin n=true then some 0 else L n
theorem Qrp{fin:Nd->Bool}{L:Nd->Option Int}{n:Nd}{v:Option Int}(a:fin n=true->L n=none)(hv:v=ini fin n\/v=fnl fin L n):(if better v (L n)=true then L n else v)=fnl fin L n:=by
 unfold fnl ini at *
 cases h:fin n with
 |true =>
  have:=a h
  rw[this];rw[h] at hv
  rcases hv with rfl | rfl<;>rfl
 |false =>
  rw[h] at hv
  rcases hv with rfl | rfl
  ·cases L n<;>rfl
  ·simp only[Bool.false_eq_true,if_false]
   split<;>rfl
theorem QpB{fin:Nd->Bool}{L:Nd->Option Int}{n:Nd}(a:fin n=true->L n=none):better (fnl fin L n) (L n)=false:=by
 unfold fnl
 cases h:fin n with
 |true =>
  rw[a h];rfl
 |false =>
  simp only[Bool.false_eq_true,if_false]
  cases L n with
  |none=>rfl
  |some c=>simp[better]
theorem Pa(T:Trl t fs N nodes mv fin){a:Nat}(U:a<=N){base:Tb}(hb:∀n∈nodes a,∀m∈mv n,(lk base m.other).isSome=true)(st:Nd->Option Int)(H:∀n∈nodes a,st n=ini fin n\/st n=fnl fin (λn=>lc base (mv n)) n)(B a1:Option D):
  ∀(rest:List Nd) (O:ak) (c:Tb) (b:Bool) (E y:Option D),(∀n∈rest,n∈nodes a)->rest.Nodup->O[p]?=some (.dt (tab c))->O[q]?=some (.df (cB mv (nodes a)))->p≠q->(∀m,m∉nodes a->lk c m=lk base m)->(∀n∈rest,lk c n=some (st n))->c.length<1000000 ->
  ∃i d u l,bK (mgN 4) B_r (rest.map nN) [B,a1,some (.ob p),some (.ob q),E,some (.bl b),y] O=.nx [B,a1,some (.ob p),some (.ob q),u,some (.bl (b || rest.any λn=>better (st n) (lc base (mv n)))),l] i/\i[p]?=some (.dt (tab d))/\(∀j,j≠p->i[j]?=O[j]?)/\(∀m,lk d m=if m∈rest then some (fnl fin (λn=>lc base (mv n)) m) else lk c m)/\d.length<=c.length
 | [],O,c,b,E,y,_,_,hp,_,_,_,_,_=>⟨O,c,E,y,by simp[bK],hp,λ_ _=>rfl,λm=>by simp,zb _⟩
 |n::rest,O,c,b,E,y,hr,hd,hp,hq,hpq,hc,hs,hl=>by
  have F:=hr n zp;have hd':=List.nodup_cons.mp hd
  have I:∀m∈mv n,m.other∉nodes a:=λm g z=>by
   obtain⟨b,b1,b2,b3⟩:=T.fw a n U F m g
   have:=T.sp a b _ z b3
   omega
  have eL:lc c (mv n)=lc base (mv n):=yq λm g=>hc _ (I m g)
  have g:∀m∈mv n,(lk c m.other).isSome=true:=λm g=>by rw[hc _ (I m g)];exact hb n F m g
  have W:=Qyn F hp hq (hs n zp) g (T.ml n) hl b B a1 y;rw[eL] at W;have P:=Qrp (L:=λn=>lc base (mv n)) (λh=>by show lc base (mv n)=none;rw[T.fe n h];rfl) (H n F)
  have C:(lk c n).isSome=true:=by rw[hs n zp];rfl
  have go:∀(G:ak) (f:Tb),G[p]?=some (.dt (tab f))->(∀j,j≠p->G[j]?=O[j]?)->(∀m,lk f m=if m=n then some (fnl fin (λn=>lc base (mv n)) n) else lk c m)->f.length<=c.length->(if better (st n) (lc base (mv n))=true then O.set p (.dt (tab (pu c n (lc base (mv n))))) else O)=G ->
    ∃i d u l,bK (mgN 4) B_r ((n::rest).map nN) [B,a1,some (.ob p),some (.ob q),E,some (.bl b),y] O=.nx [B,a1,some (.ob p),some (.ob q),u,some (.bl (b || (n::rest).any λn=>better (st n) (lc base (mv n)))),l] i/\i[p]?=some (.dt (tab d))/\(∀j,j≠p->i[j]?=O[j]?)/\(∀m,lk d m=if m∈n::rest then some (fnl fin (λn=>lc base (mv n)) m) else lk c m)/\d.length<=c.length:=λG f Y R Q k4 X=>by
   obtain⟨i,d,u,l,e,g1,g2,Z,g4⟩:=Pa T U hb st H B a1 rest G f (b || better (st n) (lc base (mv n))) (some (nN n)) (some (oD (lc base (mv n)))) (λm g=>hr m (zt _ g)) hd'.2 Y ((R q (Ne.symm hpq)).trans hq) hpq (λm g=>by
     rw[Q m,if_neg (λz:m=n=>g (by rw[z];exact F))]
     exact hc m g) (λm g=>by
     rw[Q m,if_neg (λz:m=n=>hd'.1 (by rw[<-z];exact g))]
     exact hs m (zt _ g)) (by omega)
   refine⟨i,d,u,l,?_,g1,λj J=>(g2 j J).trans (R j J),λm=>?_,by omega⟩
   ·rw[ze];unfold bK;rw[mg_n];dsimp only
    show(match B_r [B,a1,some (.ob p),some (.ob q),some (nN n),some (.bl b),y] O with
     | .nx ρ' i=>bK _ _ (rest.map nN) ρ' i | .ct ρ' i=>bK _ _ (rest.map nN) ρ' i | .bk ρ' i=>Fl.nx ρ' i | r=>r)=_
    rw[W,X];rw[List.any_cons,<-Bool.or_assoc];exact e
   ·rw[Z m,Q m]
    by_cases x:m=n
    ·subst x;simp[hd'.1]
    ·simp[x]
  cases hbt:better (st n) (lc base (mv n)) with
  |true =>
   rw[hbt] at P;refine go (O.set p (.dt (tab (pu c n (lc base (mv n)))))) (pu c n (lc base (mv n))) (uP hp) (λj J=>by rw[zm (Ne.symm J)]) (λm=>?_) (Nat.le_of_eq (QvS C)) (by rw[hbt];rfl);rw[Ov,<-P];rfl
  |false =>
   rw[hbt] at P;refine go O c hp (λ_ _=>rfl) (λm=>?_) (zb _) (by rw[hbt];rfl)
   split
   ·rename_i x;rw[x,<-P];exact hs n zp
   ·rfl
end
def B_n:MS:=(aD (aF 5 (mC (.bl false)))
  (pY 3 (cA (pX (aa 3)) (mgN 4) B_r)))
section
variable {t:Nat}{fs:List (Str×D)}{N:Nat}{nodes:Nat->List Nd}{mv:Nd->List M3}{fin:Nd->Bool}{p q:Nat}
theorem Pb(T:Trl t fs N nodes mv fin){a:Nat}(X:a<=N){base:Tb}(hb:∀n∈nodes a,∀m∈mv n,(lk base m.other).isSome=true)(st:Nd->Option Int)(C:∀n∈nodes a,st n=ini fin n\/st n=fnl fin (λn=>lc base (mv n)) n)(l a1 x L u:Option D){O:ak}{c:Tb}
  (R:O[p]?=some (.dt (tab c))) (B:O[q]?=some (.dt (cB mv (nodes a)))) (i:p≠q) (H:∀m,m∉nodes a->lk c m=lk base m) (Q:∀n∈nodes a,lk c n=some (st n)) (W:c.length<1000000):
  ∃r b g f,B_n [l,a1,some (.ob p),some (.ob q),x,L,u] O=.nx [l,a1,some (.ob p),some (.ob q),g,some (.bl ((nodes a).any λn=>better (st n) (lc base (mv n)))),f] r/\r[p]?=some (.dt (tab b))/\r[q]?=some (.dt (cB mv (nodes a)))/\(∀j,j≠p->j≠q->r[j]?=O[j]?)/\(∀m,m∉nodes a->lk b m=lk base m)/\(∀n∈nodes a,lk b n=some (fnl fin (λn=>lc base (mv n)) n))/\b.length<=c.length:=by
 have z:(O.set q (.df (cB mv (nodes a))))[q]?=some (.df (cB mv (nodes a))):=uP B
 have E:(O.set q (.df (cB mv (nodes a))))[p]?=some (.dt (tab c)):=by rw[zm (Ne.symm i)];exact R
 obtain⟨r,b,g,f,e,Z,J,I,Y⟩:=Pa T X hb st C l a1 (nodes a) (O.set q (.df (cB mv (nodes a)))) c false x u (λn h=>h) (T.nd a) E z i H Q W;rw[Bool.false_or] at e;have y:r[q]?=some (.df (cB mv (nodes a))):=(J q (Ne.symm i)).trans z;refine⟨r.set q (.dt (cB mv (nodes a))),b,g,f,?_,?_,uP y,λj P F=>?_,λm G=>?_,λn U=>?_,Y⟩
 ·have ek:pX (aa 3) [l,a1,some (.ob p),some (.ob q),x,some (.bl false),u] O=.ok ((nodes a).map nN) (O.set q (.df (cB mv (nodes a)))):=by
   unfold pX;rw[show(aa 3) [l,a1,some (.ob p),some (.ob q),x,some (.bl false),u] O=.ok (.ob q) O from rfl];dsimp only[aN];rw[B];dsimp only;rw[Qry]
  have ef:cA (pX (aa 3)) (mgN 4) B_r [l,a1,some (.ob p),some (.ob q),x,some (.bl false),u] O=.nx [l,a1,some (.ob p),some (.ob q),g,some (.bl ((nodes a).any λn=>better (st n) (lc base (mv n)))),f] r:=by
   rw[gO,ek,gP,e]
  unfold B_n;rw[sq (bw (m_c (d:=.bl false)))];show pY 3 _ [l,a1,some (.ob p),some (.ob q),x,some (.bl false),u] O=_;unfold pY;show(match O[q]? with | some (.dt _)=>_ | _=>Fl.no)=_;rw[B];dsimp only;rw[ef];dsimp only;rw[y]
 ·rw[zm (Ne.symm i)];exact Z
 ·rw[zm (Ne.symm F),J j P,zm (Ne.symm F)]
 ·rw[I m,if_neg G];exact H m G
 ·rw[I n,if_pos U]
theorem m5{t:L2.M Bool}{b:MS}{k:Nat}{ρ a:az}{O c:ak}(h:t ρ O=.ok true O)(hb:b ρ O=.nx a c):dw t b (k+1) ρ O=dw t b k a c:=by
 show(match t ρ O with | .ok true O1=>(match b ρ O1 with | .nx a c=>dw t b k a c | .ct a c=>dw t b k a c | .bk a c=>Fl.nx a c | r=>r) | .ok false O1=>.nx ρ O1 | .ex x O'=>.ex x O' | .no=>.no)=_;rw[h];dsimp only;rw[hb]
theorem m6{t:L2.M Bool}{b:MS}{k:Nat}{ρ:az}{O:ak}(h:t ρ O=.ok false O):dw t b (k+1) ρ O=.nx ρ O:=by
 show(match t ρ O with | .ok true O1=>(match b ρ O1 with | .nx ρ2 O2=>dw t b k ρ2 O2 | .ct ρ2 O2=>dw t b k ρ2 O2 | .bk ρ2 O2=>Fl.nx ρ2 O2 | r=>r) | .ok false O1=>.nx ρ O1 | .ex x O'=>.ex x O' | .no=>.no)=_;rw[h]
theorem QvI(T:Trl t fs N nodes mv fin){a:Nat}(y:a<=N){O:ak}{f:Tb}(ht:O[t]?=some (.ins "Even" fs))(hp:O[p]?=some (.dt (tab f)))(hb:∀n∈nodes a,∀m∈mv n,(lk f m.other).isSome=true)(hl:f.length<900000):
  ∃g c,uw [.ob t,.int a,.ob p] O=.ok .non g/\g[p]?=some (.dt (tab c))/\(∀(j:Nat) (x:Ob),j≠p->O[j]?=some x->g[j]?=some x)/\(∀m,m∉nodes a->lk c m=lk f m)/\(∀n∈nodes a,lk c n=some (fnl fin (λn=>lc f (mv n)) n))/\c.length<=f.length+1:=by
 have hln:=T.ln a;have F:=(zl.mp hp).1;have Z:=(zl.mp ht).1;have u:p≠O.length:=zy F
 have r:(O++[Ob.dt []])[t]?=some (.ins "Even" fs):=by rw[zA Z];exact ht
 have hp1:(O++[Ob.dt []])[p]?=some (.dt (tab f)):=by rw[zA F];exact hp
 have hq1:(O++[Ob.dt []])[O.length]?=some (.dt (cB mv [])):=by simp[cB]
 obtain⟨U,cur1,Q,e1,f1,f2,f3,f4,f5⟩:=O9 T y u none none (nodes a) [] (O++[Ob.dt []]) f none (λn h=>h) (T.nd a) r hp1 hq1 (by omega) (by simp;omega);rw[zD] at f2
 have far:∀n∈nodes a,∀m∈mv n,m.other∉nodes a:=λn X m Y z=>by
  obtain⟨b,b1,b2,b3⟩:=T.fw a n y X m Y
  have:=T.sp a b _ z b3
  omega
 have hf:∀n,fin n=true->lc f (mv n)=none:=λn h=>by rw[T.fe n h];rfl
 obtain⟨O2,P,E,C,R,g1,g2,g3,g4,g5,g6⟩:=Pb (base:=f) T y hb (ini fin) (λn _=>.inl rfl) (some (.ob t)) (some (.int a)) Q (some (.bl true)) none f1 f2 u (λm Y=>by rw[f4 m,if_neg Y]) (λn X=>by rw[f4 n,if_pos X]) (by omega);obtain⟨O3,J,H,G,e3,k1,k2,k3,k4,k5,k6⟩:=Pb (base:=f) T y hb (fnl fin λn=>lc f (mv n)) (λn _=>.inr rfl) (some (.ob t)) (some (.int a)) E (some (.bl true)) C g1 g2 u g4 g5 (by omega)
 have z3:((nodes a).any λn=>better (fnl fin (λn=>lc f (mv n)) n) (lc f (mv n)))=false:=by
  rw[List.any_eq_false];intro n _;rw[QpB (L:=λn=>lc f (mv n)) (hf n)];exact zh
 rw[z3] at e3;have I:tV [some (.ob t),some (.int a),some (.ob p),none,none,none,none] O=.ok (.ob O.length) (O++[Ob.dt []]):=rfl;have s2:(bY (cI "Even" "nodes_at" qt (mG (aa 0)) (aj (aa 1) aq))) [some (.ob t),some (.int a),some (.ob p),some (.ob O.length),none,none,none] (O++[Ob.dt []])=.ok ((nodes a).map nN) (O++[Ob.dt []]):=fW ((lF rfl r T.u1 (ma1 rfl)).trans (T.na _ a r y))
 have s3:cA (bY (cI "Even" "nodes_at" qt (mG (aa 0)) (aj (aa 1) aq))) (mgN 4) B_1 [some (.ob t),some (.int a),some (.ob p),some (.ob O.length),none,none,none] (O++[Ob.dt []])=.nx [some (.ob t),some (.int a),some (.ob p),some (.ob O.length),Q,none,none] U:=by
  rw[gO,s2,gP,e1]
 have B:∀(j:Nat) (x:Ob),j≠p->O[j]?=some x->U[j]?=some x:=λj x l i=>by
  have:=(zl.mp i).1
  rw[f3 j l (by omega),zA this];exact i
 have W:∀(j:Nat) (x:Ob),O[j]?=some x->j≠O.length:=λj x i=>zy (zl.mp i).1
 have fin':∀(g:ak) (c:Tb) (x4 x6:Option D),dw (cz (aa 5)) B_n 10 [some (.ob t),some (.int a),some (.ob p),some (.ob O.length),Q,some (.bl true),none] U=.nx [some (.ob t),some (.int a),some (.ob p),some (.ob O.length),x4,some (.bl false),x6] g->g[p]?=some (.dt (tab c))->(∀(j:Nat) (x:Ob),j≠p->O[j]?=some x->g[j]?=some x)->(∀m,m∉nodes a->lk c m=lk f m)->(∀n∈nodes a,lk c n=some (fnl fin (λn=>lc f (mv n)) n))->c.length<=f.length+1 ->
   ∃g c,uw [.ob t,.int a,.ob p] O=.ok .non g/\g[p]?=some (.dt (tab c))/\(∀(j:Nat) (x:Ob),j≠p->O[j]?=some x->g[j]?=some x)/\(∀m,m∉nodes a->lk c m=lk f m)/\(∀n∈nodes a,lk c n=some (fnl fin (λn=>lc f (mv n)) n))/\c.length<=f.length+1:=λg c x4 x6 hw h1 h2 h3 h4 h5=>by
  refine⟨g,c,?_,h1,h2,h3,h4,h5⟩;unfold B_1 at s3;unfold B_n B_r at hw;show bu (wN [some (.ob t),some (.int a),some (.ob p),none,none,none,none] O)=_;unfold wN;rw[sq (oV I)];show bu (aD _ _ [some (.ob t),some (.int a),some (.ob p),some (.ob O.length),none,none,none] (O++[Ob.dt []]))=_;rw[sq s3,sq (bw (m_c (d:=.bl true)))];show bu (gf 10 _ _ [some (.ob t),some (.int a),some (.ob p),some (.ob O.length),Q,some (.bl true),none] U)=_;unfold gf;rw[hw];rfl
 cases hb1:(nodes a).any λn=>better (ini fin n) (lc f (mv n)) with
 |true =>
  rw[hb1] at R;refine fin' O3 J H G ?_ k1 (λj x l i=>by rw[k3 j l (W j x i),g3 j l (W j x i)];exact B j x l i) k4 k5 (by omega);rw[m5 rfl R,m5 rfl e3,m6 rfl]
 |false =>
  rw[hb1] at R;refine fin' O2 P E C ?_ g1 (λj x l i=>by rw[g3 j l (W j x i)];exact B j x l i) g4 g5 (by omega);rw[m5 rfl R,m6 rfl]
end
theorem Pg{α:Type}{g:MG}{t:L2.M Bool}{m:L2.M D}(b:az->Prop)(p:α->Bool)(f:α->D):∀(xs:List α) (ρ:az) (O:ak) (acc:List D),b ρ->(∀x∈xs,∀ρ,b ρ->∃a,g (f x) ρ=some a/\b a/\t a O=.ok (p x) O/\m a O=.ok (f x) O)->cZ g t m (xs.map f) ρ O acc=.ok (acc++(xs.filter p).map f) O
 | [],ρ,O,acc,_,_=>by simp[cZ]
 |x::xs,ρ,O,acc,h,hs=>by
  obtain⟨a,l,h1,j,i⟩:=hs x zp ρ h
  have d:=λacc=>Pg (g:=g) (t:=t) (m:=m) b p f xs a O acc h1 λn c=>hs n (zt _ c)
  rw[ze];unfold cZ;rw[l];dsimp only;rw[j]
  cases q:p x with
  |true =>
   dsimp only;rw[i];dsimp only;rw[d,List.filter_cons,q];simp
  |false =>
   dsimp only;rw[d,List.filter_cons,q];simp
theorem Quu(b:Nat):iW (((b+1:Nat):Int) - 1) (b+1)=.int (b:Int)::iW ((b:Int) - 1) b:=by
 unfold iW;rw[List.range_succ_eq_map,ze,zP];congr 1
 ·show D.int _=_;congr 1;omega
 ·refine jc λi _=>?_
  show D.int _=D.int _;congr 1;omega
def Pri(N:Nat)(nodes:Nat->List Nd)(f:Nd->List M3)(d:Nd->Bool)(b:Nat)(a:Tb):Prop:=∀c,b<=c->c<=N->∀n∈nodes c,lk a n=some (fnl d (λn=>lc a (f n)) n)
def B_p:MS:=(sU (aH uw (aj (aa 0) (aj (aa 2) (aj (aa 1) aq)))))
section
variable {t:Nat}{fs:List (Str×D)}{N:Nat}{nodes:Nat->List Nd}{mv:Nd->List M3}{fin:Nd->Bool}{p q:Nat}
theorem Ph(T:Trl t fs N nodes mv fin):∀(b:Nat) (O:ak) (f:Tb) (B:Option D),b<=N+1->O[t]?=some (.ins "Even" fs)->O[p]?=some (.dt (tab f))->Pri N nodes mv fin b f->f.length+10 * b<=800000 ->
  ∃l i u,bK (mgN 2) B_p (iW ((b:Int) - 1) b) [some (.ob t),some (.ob p),B] O=.nx [some (.ob t),some (.ob p),u] l/\l[p]?=some (.dt (tab i))/\(∀(j:Nat) (x:Ob),j≠p->O[j]?=some x->l[j]?=some x)/\Pri N nodes mv fin 0 i/\i.length<=f.length+b
 | 0,O,f,B,_,_,hp,hP,_=>⟨O,f,B,rfl,hp,λ_ _ _ h=>h,hP,by omega⟩
 |a+1,O,f,B,hb,ht,hp,hP,hl=>by
  have L:a<=N:=by omega
  have F:∀n∈nodes a,∀m∈mv n,(lk f m.other).isSome=true:=λn y m E=>by
   obtain⟨c,c1,C,c3⟩:=T.fw a n L y m E;rw[hP c (by omega) C _ c3];rfl
  obtain⟨R,g,e,g1,Q,P,g4,g5⟩:=QvI T L ht hp F (by omega);have U:t≠p:=uO ht hp (λz=>nomatch z)
  have G:Pri N nodes mv fin a g:=λc c1 C n y=>by
   have H:∀m∈mv n,lk g m.other=lk f m.other:=λm E=>P _ λz=>by
    obtain⟨d,d1,d2,d3⟩:=T.fw c n C y m E
    have:=T.sp a d _ z d3
    omega
   have eL:lc g (mv n)=lc f (mv n):=yq H
   have eF:fnl fin (λn=>lc g (mv n)) n=fnl fin (λn=>lc f (mv n)) n:=by
    show(if fin n=true then some 0 else lc g (mv n))=_;rw[eL];rfl
   rw[eF]
   by_cases J:c=a
   ·subst J;exact g4 n y
   ·rw[P n λz=>J (T.sp c a n y z)];exact hP c (by omega) C n y
  obtain⟨l,i,u,e2,Y,X,W,k4⟩:=Ph T a R g (some (.int (a:Int))) (by omega) (Q t _ U ht) g1 G (by omega);refine⟨l,i,u,?_,Y,λj x I Z=>X j x I (Q j x I Z),W,by omega⟩;rw[Quu];unfold bK;rw[mg_n];dsimp only
  have eb:B_p [some (.ob t),some (.ob p),some (.int (a:Int))] O=.nx [some (.ob t),some (.ob p),some (.int (a:Int))] R:=by
   unfold B_p;rw[ZR,bz (maS rfl (maS rfl (ma1 rfl))),e,ZV]
  show(match B_p [some (.ob t),some (.ob p),some (.int (a:Int))] O with
   | .nx ρ' l=>bK _ _ (iW ((a:Int) - 1) a) ρ' l | .ct ρ' l=>bK _ _ (iW ((a:Int) - 1) a) ρ' l | .bk ρ' l=>Fl.nx ρ' l | r=>r)=_
  rw[eb];exact e2
theorem QtC(T:Trl t fs N nodes mv fin){O:ak}(h:O[t]?=some (.ins "Even" fs)):∃d a,wR [.ob t] O=.ok (.ob O.length) d/\d[O.length]?=some (.dt (tab a))/\(∀(j:Nat) (x:Ob),O[j]?=some x->d[j]?=some x)/\Pri N nodes mv fin 0 a/\a.length<=N+1:=by
 have hN:=T.hN;have f:=(zl.mp h).1
 have b:(O++[Ob.dt []])[t]?=some (.ins "Even" fs):=by rw[zA f];exact h
 obtain⟨d,a,y,e,n,m,l,i⟩:=Ph (p:=O.length) T (N+1) (O++[Ob.dt []]) [] none (zb _) b (by simp[tab]) (λc u z=>absurd u (by omega)) (by simp;omega);refine⟨d,a,?_,n,λj x g=>?_,l,by rw[zU] at i;omega⟩
 ·have r:vU (aj (cI "Even" "last_at" ux (mG (aa 0)) aq) (aj (mUn iM (mC (.int 1))) (aj (mUn iM (mC (.int 1))) aq))) [some (.ob t),some (.ob O.length),none] (O++[Ob.dt []])=.ok (iW (((N+1:Nat):Int) - 1) (N+1)) (O++[Ob.dt []]):=by
   unfold vU;rw[maS ((lF rfl b T.u4 rfl).trans (T.la _ b)) (maS (x:=.int (-1)) rfl (ma1 (x:=.int (-1)) rfl))];dsimp only[aN];rw[if_pos ⟨rfl,by omega,by omega,by decide,by decide⟩];congr 1;rw[show((N:Int) - -1).toNat=N+1 by omega,show(((N+1:Nat):Int) - 1)=(N:Int) by omega]
  unfold B_p at e;show bu (wQ [some (.ob t),none,none] O)=_;unfold wQ;rw[sq (oV (show tV [some (.ob t),none,none] O=.ok (.ob O.length) (O++[Ob.dt []]) from rfl))];show bu (aD _ _ [some (.ob t),some (.ob O.length),none] (O++[Ob.dt []]))=_;rw[cu,gO,r,gP,e,cW];rfl
 ·have:=(zl.mp g).1
  exact m j x (by omega) (by rw[zA this];exact g)
theorem yt:∀(l:List Int) (b:Option Int) (c:Int),mdI b l=some c->b=some c\/c∈l
 | [],b,c,h=>.inl (by cases b<;>exact h)
 |n::r,none,c,h=>by
  rcases yt r (some n) c h with h | h
  ·exact .inr (by rw[zB h];exact zp)
  ·exact .inr (zt _ h)
 |n::r,some m,c,h=>by
  rcases yt r (some (if n<m then n else m)) c h with h | h
  ·split at h
   ·exact .inr (by rw[zB h];exact zp)
   ·exact .inl h
  ·exact .inr (zt _ h)
theorem Pj:∀(l:List Int) (b:Int),∃c,mdI (some b) l=some c
 | [],b=>⟨b,rfl⟩
 |n::r,b=>Pj r (if n<b then n else b)
theorem Qyp{l:List Int}(h:l≠[]):∃c,mdI none l=some c:=by
 cases l with
 |nil=>exact absurd rfl h
 |cons n r=>exact Pj r n
theorem Qxk(x y:Option Int):gEq (oD x) (oD y)=some (.bl (decide (x=y))):=by
 cases x with
 |none=>cases y<;>rfl
 |some i =>
  cases y with
  |none=>rfl
  |some j =>
   show some (D.bl (decide (i=j)))=_;congr 2;exact decide_eq_decide.mpr ⟨λh=>by rw[h],λh=>zB h⟩
theorem Pk{α:Type}(f:α->Bool)(g:α->D)(h:α->Bool):∀(ms:List α) (m:α),ms.find? f=some m->((ms.filter f).map g)[0]?=some (g m)
 |x::ms,m,e=>by
  rw[List.find?_cons] at e
  cases hx:f x with
  |true =>
   rw[hx] at e;cases e;simp[hx]
  |false =>
   rw[hx] at e;rw[List.filter_cons,hx];exact Pk f g h ms m e
theorem Qzo{O:ak}{ps:Tb}{ms:List M3}{c:Int}(l:O[p]?=some (.dt (tab ps)))(n:∀m∈ms,(lk ps m.other).isSome=true)(E:ms.length<=1000)(d:lc ps ms=some c):
  ∃m,ms.find? (λm=>decide (co ps m=lc ps ms))=some m/\m∈ms/\co ps m=some c/\uy [.lst (ms.map d3),.ob p] O=.ok (d3 m) O:=by
 obtain⟨x,C,f⟩:∃x∈ms,co ps x=some c:=by
  rcases yt _ _ _ d with h | h
  ·cases h
  ·exact List.mem_filterMap.mp h
 obtain⟨m,b⟩:∃m,ms.find? (λm=>decide (co ps m=lc ps ms))=some m:=by
  cases e:ms.find? (λm=>decide (co ps m=lc ps ms)) with
  |some m=>exact⟨m,rfl⟩
  |none =>
   have:=List.find?_eq_none.mp e x C
   rw[f,d] at this;simp at this
 have g:=List.mem_of_find?_eq_some b
 have i:co ps m=some c:=by
  have:=List.find?_some b
  rw[<-d];exact jh this
 refine⟨m,b,g,i,?_⟩;have B:aH oJ (aj (aa 0) (aj (aa 1) aq)) [some (.lst (ms.map d3)),some (.ob p),none] O=.ok (oD (lc ps ms)) O:=(bz (maS rfl (ma1 rfl))).trans (OJ l n E)
 have F:cZ (mgN 0) (aJ (ao gEq (aH kY (aj (aa 0) (aj (aa 1) aq))) (aa 2))) (aa 0) (ms.map d3) [none,some (.ob p),some (oD (lc ps ms))] O []=.ok ((ms.filter λm=>decide (co ps m=lc ps ms)).map d3) O:=by
  rw[Pg (λρ=>∃a,ρ=[a,some (.ob p),some (oD (lc ps ms))]) (λm=>decide (co ps m=lc ps ms)) d3 ms _ _ _ ⟨none,rfl⟩ (by
   rintro m' hm' ρ ⟨a,rfl⟩
   exact⟨_,rfl,⟨_,rfl⟩,fB (bx ((bz (maS rfl (ma1 rfl))).trans (Oz l (n m' hm'))) (y:=oD (lc ps ms)) rfl (by
    rw[show bG O (oD (co ps m'))=oD (co ps m') by cases co ps m'<;>rfl,show bG O (oD (lc ps ms))=oD (lc ps ms) by cases lc ps ms<;>rfl,Qxk])),rfl⟩)]
  rw[zD]
 have z:c7 (bY (aa 0)) 1 [1,2] (mgN 0) (aJ (ao gEq (aH kY (aj (aa 0) (aj (aa 1) aq))) (aa 2))) (aa 0) [some (.lst (ms.map d3)),some (.ob p),some (oD (lc ps ms))] O=.ok (.lst ((ms.filter λm=>decide (co ps m=lc ps ms)).map d3)) O:=lG (fW rfl) (by rw[zd];omega) rfl F
 have u:ao gIx (c7 (bY (aa 0)) 1 [1,2] (mgN 0) (aJ (ao gEq (aH kY (aj (aa 0) (aj (aa 1) aq))) (aa 2))) (aa 0)) (mC (.int 0)) [some (.lst (ms.map d3)),some (.ob p),some (oD (lc ps ms))] O=.ok (d3 m) O:=bx z m_c (by
  rw[cT,cV,wg]
  exact(BZ (j:=0)).trans (Pk _ d3 (λ_=>true) ms m b))
 show bu (wV [some (.lst (ms.map d3)),some (.ob p),none] O)=_;unfold wV;rw[sq (bw B),ju];exact congrArg (λr=>bu (oG r)) u
end
def Wy(ps:Tb)(b:Nd->List M3)(a:Nd->Bool):Nd->List M3->Prop
 |n,[]=>a n=true
 |n,m::ms=>a n=false/\(b n).find? (λm=>decide (co ps m=lc ps (b n)))=some m/\Wy ps b a m.other ms
def B_y:MS:=(aD (aF 5 (aH uy (aj (cI "Even" "moves_from" jQ (mG (aa 0)) (aj (aa 2) aq)) (aj (aa 1) aq))))
  (aD (dq 4 (ao gIx (aa 5) (mC (.int 1))))
  (aF 2 (ao gIx (aa 5) (mC (.int 2))))))
section
variable {t:Nat}{fs:List (Str×D)}{N:Nat}{nodes:Nat->List Nd}{mv:Nd->List M3}{fin:Nd->Bool}{p q:Nat}
theorem QyR(T:Trl t fs N nodes mv fin){ps:Tb}(G:Pri N nodes mv fin 0 ps){O:ak}(x:O[t]?=some (.ins "Even" fs))(L:O[p]?=some (.dt (tab ps)))(g:Option D):∀(k a:Nat) (n:Nd) (c:Int) (nm:List D) (f:Nat) (j:Option D),a+k=N->n∈nodes a->lk ps n=some (some c)->k<f->nm.length+k<1000000 ->
  ∃ms y h,dw (dM (cz (cI "Even" "is_end" iD (mG (aa 0)) (aj (aa 2) aq)))) B_y f [some (.ob t),some (.ob p),some (nN n),g,some (.lst nm),j] O=.nx [some (.ob t),some (.ob p),some (nN y),g,some (.lst (nm++ms.map λm=>.str m.name)),h] O/\Wy ps mv fin n ms/\ms.length<=k:=by
 intro k
 induction k using Nat.strongRecOn with
 | _ k ih =>
  intro a n c nm f j Z l P hf hl;obtain⟨B,rfl⟩:∃B,f=B+1:=⟨f - 1,by omega⟩
  have u:dM (cz (cI "Even" "is_end" iD (mG (aa 0)) (aj (aa 2) aq))) [some (.ob t),some (.ob p),some (nN n),g,some (.lst nm),j] O=.ok (!fin n) O:=by
   rw[Bx,ou,(lF rfl x T.u3 (ma1 rfl)).trans (T.ie O a n x (by omega) l),aN,p8,qd,qb,aN]
  cases hfin:fin n with
  |true =>
   rw[hfin] at u;exact⟨[],n,j,by rw[m6 u];simp,hfin,Nat.zero_le _⟩
  |false =>
   rw[hfin] at u
   have Q:lc ps (mv n)=some c:=by
    have:=G a (Nat.zero_le _) (by omega) n l
    rw[P] at this;have h2:some c=fnl fin (λn=>lc ps (mv n)) n:=zB this;unfold fnl at h2;rw[hfin,if_neg zh] at h2;exact h2.symm
   have z:∀m∈mv n,(lk ps m.other).isSome=true:=λm z=>by
    obtain⟨b,Y,H,C⟩:=T.fw a n (by omega) l m z;rw[G b (Nat.zero_le _) H _ C];rfl
   obtain⟨m,X,E,i,W⟩:=Qzo L z (T.ml n) Q;obtain⟨b,Y,H,C⟩:=T.fw a n (by omega) l m E
   obtain⟨r,F⟩:∃r,lk ps m.other=some (some r):=by
    unfold co at i;split at i
    ·rename_i r e;exact⟨r,e⟩
    ·cases i
   have J:aH uy (aj (cI "Even" "moves_from" jQ (mG (aa 0)) (aj (aa 2) aq)) (aj (aa 1) aq)) [some (.ob t),some (.ob p),some (nN n),g,some (.lst nm),j] O=.ok (d3 m) O:=(bz (maS ((lF rfl x T.u2 (ma1 rfl)).trans (T.mf O a n x (by omega) l)) (ma1 rfl))).trans W
   have R:B_y [some (.ob t),some (.ob p),some (nN n),g,some (.lst nm),j] O=.nx [some (.ob t),some (.ob p),some (nN m.other),g,some (.lst (nm++[.str m.name])),some (d3 m)] O:=by
    unfold B_y;rw[sq (bw J)];show aD _ _ [some (.ob t),some (.ob p),some (nN n),g,some (.lst nm),some (d3 m)] O=_;rw[sq (oR (d:=.str m.name) (ds:=nm) (bx rfl rfl rfl) rfl (by omega))];rfl
   obtain⟨ms,y,h,U,I,l3⟩:=ih (N - b) (by omega) b m.other r (nm++[.str m.name]) B (some (d3 m)) (by omega) C F (by omega) (by rw[zn,zV];omega);refine⟨m::ms,y,h,?_,⟨hfin,X,I⟩,by rw[zw];omega⟩;rw[m5 u R,U,zI];rfl
theorem Pn(T:Trl t fs N nodes mv fin)(f:∀(a:Nat) (n:Nd),a<=N->n∈nodes a->fin n=false->mv n≠[]){ps:Tb}(r:Pri N nodes mv fin 0 ps):∀(k a:Nat) (n:Nd),a+k=N->n∈nodes a->∃c,lk ps n=some (some c):=by
 intro k
 induction k using Nat.strongRecOn with
 | _ k ih =>
  intro a n y d;have h1:=r a (Nat.zero_le _) (by omega) n d
  cases hfin:fin n with
  |true =>
   refine⟨0,?_⟩;rw[h1];unfold fnl;rw[hfin,if_pos rfl]
  |false =>
   have h2:lk ps n=some (lc ps (mv n)):=by
    rw[h1];unfold fnl;rw[hfin,if_neg zh]
   obtain⟨m,i⟩:=List.exists_mem_of_ne_nil _ (f a n (by omega) d hfin);obtain⟨b,C,B,x⟩:=T.fw a n (by omega) d m i;obtain⟨c,j⟩:=ih (N - b) (by omega) b m.other (by omega) x
   have g:co ps m=some (m.cost+c):=by
    unfold co;rw[j]
   obtain⟨u,h⟩:=Qyp (l:=(mv n).filterMap (co ps)) (λz=>by
    have:=List.mem_filterMap.mpr ⟨m,i,g⟩
    rw[z] at this
    cases this)
   exact⟨u,by rw[h2];exact congrArg some h⟩
theorem Pq(T:Trl t fs N nodes mv fin)(i:∀(a:Nat) (n:Nd),a<=N->n∈nodes a->fin n=false->mv n≠[])(H:N<250){O:ak}(l:O[t]?=some (.ins "Even" fs)):
  ∃b ps c ms,uA [.ob t] O=.ok (.tup [.int c,.lst (ms.map λm=>.str m.name)]) b/\(∀(j:Nat) (x:Ob),O[j]?=some x->b[j]?=some x)/\Pri N nodes mv fin 0 ps/\lk ps (0,0)=some (some c)/\Wy ps mv fin (0,0) ms:=by
 obtain⟨b,ps,C,u,r,g,_⟩:=QtC T l;obtain⟨c,f⟩:=Pn T i g N 0 (0,0) (zY _) T.f0;have ht':=r t _ l;obtain⟨ms,F,E,h,w2,G⟩:=QyR T g ht' u (some (.int c)) N 0 (0,0) c [] 250 none (zY _) T.f0 f (by omega) (by simp;omega);refine⟨b,ps,c,ms,?_,r,g,f,w2⟩;have B:aH wR (aj (aa 0) aq) [some (.ob t),none,none,none,none,none] O=.ok (.ob O.length) b:=(bz (ma1 rfl)).trans C;have z:cI "Even" "first_node" uz (mG (aa 0)) aq [some (.ob t),some (.ob O.length),none,none,none,none] b=.ok (nN (0,0)) b:=(lF rfl ht' T.u5 rfl).trans (T.fi b ht');have y:dH (aa 1) (aa 2) [some (.ob t),some (.ob O.length),some (nN (0,0)),none,none,none] b=.ok (.int c) b:=Hf rfl u rfl f
 unfold B_y at h;rw[zD] at h;show bu (wW [some (.ob t),none,none,none,none,none] O)=_;unfold wW;rw[sq (oV B)];show bu (aD _ _ [some (.ob t),some (.ob O.length),none,none,none,none] b)=_;rw[sq (bw z)];show bu (aD _ _ [some (.ob t),some (.ob O.length),some (nN (0,0)),none,none,none] b)=_;rw[sq (bw y)];show bu (aD _ _ [some (.ob t),some (.ob O.length),some (nN (0,0)),some (.int c),none,none] b)=_;rw[sq (show bc (aJ (jF (aa 3))) (aV (mC .non)) bj [some (.ob t),some (.ob O.length),some (nN (0,0)),some (.int c),none,none] b=.nx [some (.ob t),some (.ob O.length),some (nN (0,0)),some (.int c),none,none] b from rfl)]
 rw[sq (bw (d:=.lst []) (lD rfl (Nat.zero_le _)))];show bu (aD (gf 250 _ _) _ [some (.ob t),some (.ob O.length),some (nN (0,0)),some (.int c),some (.lst []),none] b)=_;unfold gf;rw[sq h];rfl
end
theorem Pu{g:List Str}{f c:Str}{mo b:L2.M D}{ρ:az}{O a:ak}{n:Nat}{d:D}{fs:List (Str×D)}(hv:b ρ O=.ok d a)(h:mo ρ a=.ok (.ob n) a)(l:a[n]?=some (.ins c fs))(j:c∈g)(i:fs.length<900):
  kI g f mo b ρ O=.nx ρ (a.set n (.ins c (putD f d fs))):=by
 rw[Z5,hv,Z6,h];unfold puF;dsimp only;rw[l];dsimp only;rw[if_pos ⟨j,i⟩]
theorem Hg{O:ak}{o:Ob}:(O++[o])[O.length]?=some o:=by
 rw[zC (zb _),Nat.sub_self];rfl
theorem Px{O:ak}{o a:Ob}:(O++[o]).set O.length a=O++[a]:=by
 rw[List.set_append_right _ _ (zb _),Nat.sub_self];rfl
theorem yu{m:L2.M D}{ρ:az}{O:ak}{d:D}{l:List D}(h:m ρ O=.ok d O)(hd:bG O d=.lst l):aY gD (aj m aq) ρ O=.ok (.lst l) O:=by
 rw[mK,ma1 h,aN,ze,zO,hd,Qvt,dR]
theorem not_no{m:L2.M D}{s:MS}{ρ:az}{O:ak}(h:m ρ O=.ok (.bl true) O):bc (dM (cz m)) s bj ρ O=.nx ρ O:=by
 rw[jL,Bx,ou,h,aN,p8,qd,qb,aN,jM,if_neg (by decide)];rfl
theorem Hh{m:L2.M D}{ρ:az}{O:ak}(h:m ρ O=.ok (.bl true) O):dM (cz m) ρ O=.ok false O:=by
 rw[Bx,ou,h,aN,p8,qd,qb,aN];rfl
theorem or_f{b a:L2.M Bool}{ρ:az}{O:ak}(h1:b ρ O=.ok false O)(h2:a ρ O=.ok false O):dJ b a ρ O=.ok false O:=by
 rw[tZ,h1,aN,if_neg zh,h2]
theorem yw{i:Nat}{m:L2.M D}{ρ:az}{O a:ak}{d:D}(h:m ρ O=.ok d a):aF i m ρ O=.nx (ρ.set i (some d)) a:=by
 rw[jN,h,jO]
theorem QAh{n i:Nat}{d:D}(h:(cH 0 n)[i]?=some d):i<n/\d=.int (i:Int):=by
 have hi:i<n:=by
  have:=(zl.mp h).1
  rwa [qj] at this
 have e:cH 0 n=(List.range n).map λi:Nat=>D.int ((i:Nat):Int):=by unfold cH;simp
 rw[e,zF,List.getElem?_range hi] at h;cases h;exact⟨hi,rfl⟩
theorem Py{m:L2.M D}{ρ:az}{O:ak}{b:Bool}(h:m ρ O=.ok (.bl b) O):cz m ρ O=.ok b O:=by
 rw[ou,h,aN,p8,qd,qb]
theorem Hi{m:L2.M D}{ρ:az}{O:ak}{d:D}{n t:String}(h:m ρ O=.ok d O)(a:tyD (bG O d)=some t):eZ n m ρ O=.ok (.bl (dO t n)) O:=by
 rw[Lp,h,aN,a,Lj]
def dK(k:Nat):D:=.tup [.int (k:Int),.int 0]
theorem QzX(a b:Nat):gEq (dK a) (dK b)=some (.bl (decide ((a:Int)=(b:Int)))):=by
 show(if(okE (dK a)&&okE (dK b))=true then some (D.bl (iQ (dK a) (dK b))) else none)=_
 have e:iQ (dK a) (dK b)=decide ((a:Int)=(b:Int)):=by
  show((a:Int) == (b:Int)&&((0:Int) == 0&&true))=_
  by_cases h:(a:Int)=(b:Int)
  ·rw[zj h,beq_iff_eq.mpr h];rfl
  ·rw[zf h,beq_eq_false_iff_ne.mpr h];rfl
 rw[show okE (dK a)=true from rfl,show okE (dK b)=true from rfl,Bool.and_self,if_pos rfl,e]
def fsE(l:List LT)(w:Int):List (Str×D):=[("letters",.lst (l.map dL)),("wide",.int w)]
def fs1(l:List LT):List (Str×D):=[("letters",.lst (l.map dL))]
theorem pf1(l:List LT):putD "letters" (.lst (l.map dL)) []=fs1 l:=rfl
theorem pf2(l:List LT)(w:Int):putD "wide" (.int w) (fs1 l)=fsE l w:=rfl
theorem lkL(l:List LT)(w:Int):(fsE l w).lookup ("letters":Str)=some (.lst (l.map dL)):=rfl
theorem lkW(l:List LT)(w:Int):(fsE l w).lookup ("wide":Str)=some (.int w):=rfl
theorem Qxz(O:ak)(l:List LT)(w:Int):uB [.ob O.length,.lst (l.map dL),.int w] (O++[.ins "Even" []])=.ok .non (O++[.ins "Even" (fsE l w)]):=by
 have b:kI ["Even"] "letters" (aa 0) (aY gD (aj (aa 1) aq)) [some (.ob O.length),some (.lst (l.map dL)),some (.int w)] (O++[.ins "Even" []])=.nx [some (.ob O.length),some (.lst (l.map dL)),some (.int w)] (O++[.ins "Even" (fs1 l)]):=by
  rw[Pu (d:=.lst (l.map dL)) (n:=O.length) (c:="Even") (fs:=[]) (yu (d:=.lst (l.map dL)) rfl rfl) rfl Hg zp (by decide),Px,pf1]
 have a:kI ["Even"] "wide" (aa 0) (mG (aa 2)) [some (.ob O.length),some (.lst (l.map dL)),some (.int w)] (O++[.ins "Even" (fs1 l)])=.nx [some (.ob O.length),some (.lst (l.map dL)),some (.int w)] (O++[.ins "Even" (fsE l w)]):=by
  rw[Pu (d:=.int w) (n:=O.length) (c:="Even") (fs:=fs1 l) rfl rfl Hg zp (show(1:Nat)<900 by decide),Px,pf2]
 show bu (wX [some (.ob O.length),some (.lst (l.map dL)),some (.int w)] (O++[.ins "Even" []]))=_;unfold wX;rw[cu,b,cW];exact congrArg bu a
structure Tr(O:ak)(n:Nat)(l:List LT)(w:Int):Prop where
 ob:O[n]?=some (.ins "Even" (fsE l w))
 le:l.length<=200
 w2:2<=w
 w40:w<=40
theorem Pz{x:Int}(h0:-100000<=x)(h1:x<=100000):eX (.int x) (.int 2)=some (.int (x * x)):=by
 unfold eX gI;dsimp only
 have s:lV x=true:=by
  unfold lV;rw[zj (by omega),zj (by omega)];rfl
 rw[if_pos (by rw[s];rfl)];show some (D.int (x ^ 2))=_;rw[Int.pow_succ,Int.pow_succ,Int.pow_zero,Int.one_mul]
section
variable {O:ak}{n:Nat}{l:List LT}{w:Int}
theorem f_l(T:Tr O n l w){i:Nat}{ρ:az}(h:aa i ρ O=.ok (.ob n) O):fP ["Even"] "letters" (aa i) ρ O=.ok (.lst (l.map dL)) O:=Ol (n:=n) h T.ob zp (lkL _ _)
theorem f_w(T:Tr O n l w){i:Nat}{ρ:az}(h:aa i ρ O=.ok (.ob n) O):fP ["Even"] "wide" (aa i) ρ O=.ok (.int w) O:=Ol (n:=n) h T.ob zp (lkW _ _)
theorem l_l(T:Tr O n l w){i:Nat}{ρ:az}(h:aa i ρ O=.ok (.ob n) O):aY bT (aj (fP ["Even"] "letters" (aa i)) aq) ρ O=.ok (.int (l.length:Int)) O:=by
 have:=qQ (f_l T h)
 rwa [zd] at this
theorem Qux:uz [.ob n] O=.ok (dK 0) O:=rfl
theorem QtM(k:Nat):qt [.ob n,.int (k:Int)] O=.ok (.lst [dK k]) O:=rfl
theorem QvF(T:Tr O n l w):ux [.ob n] O=.ok (.int (l.length:Int)) O:=by
 show bu (wO [some (.ob n)] O)=_;unfold wO;rw[dX (l_l T rfl)];rfl
theorem PB(T:Tr O n l w)(k:Nat):iD [.ob n,dK k] O=.ok (.bl (decide ((k:Int)=(l.length:Int)))) O:=by
 show bu (wH [some (.ob n),some (dK k)] O)=_;unfold wH;rw[dX (bx (x:=dK k) (y:=dK l.length) rfl (jx (maS (l_l T rfl) (ma1 (x:=.int 0) rfl)) (show(2:Nat)<=1000000 by decide)) (QzX k l.length))];rfl
theorem Qtk(T:Tr O n l w)(p:Nat×Int)(h0:0<=p.2)(h1:p.2<=w):wK [.ob n,.int (p.1:Int),.int p.2] O=.ok (.int (cst l w p)) O:=by
 have t:aJ (ao gEq (aa 1) (aY bT (aj (fP ["Even"] "letters" (aa 0)) aq))) [some (.ob n),some (.int (p.1:Int)),some (.int p.2)] O=.ok (decide ((p.1:Int)=(l.length:Int))) O:=G4 rfl (l_l T rfl);have w40:=T.w40;show bu (wJ [some (.ob n),some (.int (p.1:Int)),some (.int p.2)] O)=_;unfold wJ cst
 by_cases h:p.1=l.length
 ·rw[ju,BJ,t,zj (by omega),aN,if_pos rfl,if_pos h];rfl
 ·rw[ju,BJ,t,zf (by omega),aN,if_neg zh,if_neg h,bx (x:=.int (w - p.2)) (y:=.int 2) (QzM (f_w T rfl) rfl) rfl (Pz (by omega) (by omega))];rfl
theorem Qw0{m:L2.M D}{ρ:az}{O:ak}{l:List D}(h:m ρ O=.ok (.lst l) O):vQ m ρ O=.ok l.reverse O:=by
 unfold vQ;rw[h,aN]
def mvs(l:List LT)(lo:Nat)(w:Int):List D:=if lo=l.length then[] else((ends l lo w).map (mvE l w)).reverse
theorem QAs(T:Tr O n l w)(lo:Nat)(c:lo<=l.length):jQ [.ob n,dK lo] O=.ok (.lst (mvs l lo w)) O:=by
 have w2:=T.w2;have le:=T.le
 have t:cz (cI "Even" "is_end" iD (aa 0) (aj (aa 1) aq)) [some (.ob n),some (dK lo),none] O=.ok (decide ((lo:Int)=(l.length:Int))) O:=Py (by
  rw[lF (n:=n) (ds:=[dK lo]) rfl T.ob rfl (ma1 rfl)]
  exact PB T lo)
 show bu (wM [some (.ob n),some (dK lo),none] O)=_;unfold wM mvs;rw[cu]
 by_cases h:lo=l.length
 ·rw[dU (by rw[t,zj (by omega)]),if_pos h];rfl
 ·have ok:=gQ (l:=l) (lo:=lo) (w:=w) (by omega) w2;rw[dh (by rw[t,zf (by omega)]),jt,cW,if_neg h,cu]
  have f:aF 2 (aH ur (aj (fP ["Even"] "letters" (aa 0)) (aj (ao gIx (aa 1) (mC (.int 0))) (aj (fP ["Even"] "wide" (aa 0)) aq)))) [some (.ob n),some (dK lo),none] O=.nx [some (.ob n),some (dK lo),some (.lst ((ends l lo w).map dE))] O:=by
   refine bw ?_;rw[bz (maS (f_l T rfl) (maS (x:=.int (lo:Int)) (bx (x:=dK lo) (y:=.int 0) rfl rfl rfl) (ma1 (f_w T rfl))))];exact Oh l lo w (by omega) c O
  rw[f,cW]
  have d:=kW (g:=gw 2 (cM (mgN 0) (cM (mgN 1) ir))) (t:=cQ) (m:=cG (aj (cI "Even" "cost_to" wK (aa 2) (aj (aa 0) (aj (aa 1) aq))) (aj (aY pW (aj (aa 0) aq)) (aj (cG (aj (aa 0) (aj (mC (.int 0)) aq))) aq)))) (λρ=>∃a b,ρ=[a,b,some (.ob n)]) dE (mvE l w) (ends l lo w).reverse [none,none,some (.ob n)] O [] ⟨_,_,rfl⟩ (by
   rintro p hp ρ ⟨a,b,rfl⟩;obtain⟨h1,h2,h3,h4,_⟩:=ok p (List.mem_reverse.mp hp);refine⟨[some (.int (p.1:Int)),some (.int p.2),some (.ob n)],rfl,⟨_,_,rfl⟩,rfl,jx (maS ?_ (maS (lE (xs:=[.int (p.1:Int)]) (ma1 rfl) (Qw9 p.1 (by omega))) (ma1 (x:=.tup [.int (p.1:Int),.int 0]) rfl))) (show(3:Nat)<=1000000 by decide)⟩;rw[lF (n:=n) (ds:=[.int (p.1:Int),.int p.2]) rfl T.ob rfl (maS (x:=.int (p.1:Int)) rfl (ma1 (x:=.int p.2) rfl))]
   exact Qtk T p h3 h4)
  rw[zD,List.map_reverse,List.map_reverse] at d
  have hlen:((ends l lo w).map dE).reverse.length<=1000000:=by
   rw[List.length_reverse,zd]
   have:=Hc l lo w
   omega
  rw[dX (lG (own:=2) (cap:=[0]) (Qw0 (m:=aa 2) (ρ:=[some (.ob n),some (dK lo),some (.lst ((ends l lo w).map dE))]) (O:=O) (l:=(ends l lo w).map dE) rfl) hlen (ρ0:=[none,none,some (.ob n)]) rfl d)];rfl
end
theorem Hj:∀(l:List Int) (b:Option Int) (c:Int),mdI b l=some c->(∀y,b=some y->c<=y)/\∀x∈l,c<=x
 | [],b,c,h=>by
  have f:b=some c:=by
   cases b<;>exact h
  refine⟨λy d=>?_,λx a=>nomatch a⟩;rw[f] at d
  have:=zB d
  omega
 |n::r,none,c,h=>by
  obtain⟨h1,h2⟩:=Hj r (some n) c h;refine⟨λy (d:none=some y)=>(nomatch d),λx a=>?_⟩
  rcases zo.mp a with rfl | a
  ·exact h1 _ rfl
  ·exact h2 x a
 |n::r,some m,c,h=>by
  obtain⟨h1,h2⟩:=Hj r (some (if n<m then n else m)) c h;have h3:=h1 _ rfl;refine⟨λy d=>?_,λx a=>?_⟩
  ·have:=zB d
   split at h3<;>omega
  ·rcases zo.mp a with rfl | a
   ·split at h3<;>omega
   ·exact h2 x a
theorem Hl{ps:Tb}{m:M3}{b:Int}(h:lk ps m.other=some (some b)):co ps m=some (m.cost+b):=by
 unfold co;rw[h]
theorem QzZ{ps:Tb}{ms:List M3}{c b:Int}{m:M3}(h:lc ps ms=some c)(a:m∈ms)(hb:lk ps m.other=some (some b)):c<=m.cost+b :=
 (Hj _ _ _ h).2 _ (List.mem_filterMap.mpr ⟨m,a,Hl hb⟩)
theorem Qx2{ps:Tb}{ms:List M3}{c:Int}(h:lc ps ms=some c):∃m,m∈ms/\co ps m=some c:=by
 rcases yt _ _ _ h with h | h
 ·cases h
 ·exact List.mem_filterMap.mp h
section
variable {N:Nat}{nodes:Nat->List Nd}{mv:Nd->List M3}{fin:Nd->Bool}
theorem Pri.at{ps:Tb}(h:Pri N nodes mv fin 0 ps){a:Nat}{n:Nd}{c:Int}(f:a<=N)(b:n∈nodes a)(d:lk ps n=some (some c)):some c=if fin n=true then some 0 else lc ps (mv n):=by
 have e:=h a (Nat.zero_le _) f n b;rw[d] at e;exact zB e
end
section
variable {N:Nat}{nodes:Nat->List Nd}{mv:Nd->List M3}{fin:Nd->Bool}
theorem QxJ(fw:∀(a:Nat) (n:Nd),a<=N->n∈nodes a->∀m∈mv n,∃b,a<b/\b<=N/\m.other∈nodes b){ps c:Tb}(h:Pri N nodes mv fin 0 ps)(h':Pri N nodes mv fin 0 c):∀(k a:Nat) (n:Nd),a+k=N->n∈nodes a->lk c n=lk ps n:=by
 intro k
 induction k using Nat.strongRecOn with
 | _ k ih =>
  intro a n i d;rw[h a (Nat.zero_le _) (by omega) n d,h' a (Nat.zero_le _) (by omega) n d];show some (if fin n=true then some 0 else lc c (mv n))=some (if fin n=true then some 0 else lc ps (mv n))
  rw[yq λm f=>by
   obtain⟨b,l,j,g⟩:=fw a n (by omega) d m f
   exact ih (N - b) (by omega) b m.other (by omega) g]
theorem PJ{α:Type}{f g:α->Bool}:∀{l:List α},(∀x∈l,f x=g x)->l.find? f=l.find? g
 | [],_=>rfl
 |x::l,h=>by
  rw[List.find?_cons,List.find?_cons,h x zp,PJ λy a=>h y (zt _ a)]
theorem PK(fw:∀(a:Nat) (n:Nd),a<=N->n∈nodes a->∀m∈mv n,∃b,a<b/\b<=N/\m.other∈nodes b){ps d:Tb}(h:Pri N nodes mv fin 0 ps)(h':Pri N nodes mv fin 0 d):∀(ms c:List M3) (a:Nat) (n:Nd),a<=N->n∈nodes a->Wy ps mv fin n ms->Wy d mv fin n c->c=ms
 | [],[],_,_,_,_,_,_=>rfl
 | [],m::ms,_,n,_,_,w,w'=>by
  have f:fin n=true:=w;have z:=w'.1;rw[f] at z;cases z
 |m::ms,[],_,n,_,_,w,w'=>by
  have f:fin n=true:=w';have z:=w.1;rw[f] at z;cases z
 |m::ms,m'::c,a,n,ha,hn,w,w'=>by
  have l:∀x∈mv n,lk d x.other=lk ps x.other:=λx i=>by
   obtain⟨b,r,q,j⟩:=fw a n ha hn x i;exact QxJ fw h h' (N - b) b x.other (by omega) j
  have e:=w'.2.1
  rw[PJ (g:=λm=>decide (co ps m=lc ps (mv n))) λx i=>by
   rw[yq l];unfold co
   rw[l x i],w.2.1] at e
  cases e;obtain⟨b,r,q,j⟩:=fw a n ha hn m (List.mem_of_find?_eq_some w.2.1);rw[PK fw h h' ms c b m.other q j w.2.2 w'.2.2]
end
def mvN(l:List LT)(w:Int)(n:Nd):List M3:=if n=((l.length:Int),0) then[] else((ends l n.1.toNat w).map λp=>(⟨cst l w p,strN p.1,((p.1:Int),0)⟩:M3)).reverse
def eO(l:List LT)(n:Nd):Bool:=decide (n=((l.length:Int),0))
def ndN(a:Nat):List Nd:=[((a:Int),0)]
theorem qY(l:List LT)(a:Nat):eO l ((a:Int),0)=decide ((a:Int)=(l.length:Int)):=by
 unfold eO
 by_cases h:(a:Int)=(l.length:Int)
 ·rw[zj h,zj (by rw[h])]
 ·rw[zf h,zf (λz=>h (congrArg Prod.fst z))]
theorem Qyl(l:List LT)(w:Int)(lo:Nat):(mvN l w ((lo:Int),0)).map d3=mvs l lo w:=by
 unfold mvN mvs
 by_cases h:lo=l.length
 ·rw[if_pos (by rw[h]),if_pos h];rfl
 ·rw[if_neg (λz=>h (by have:=congrArg Prod.fst z;dsimp only at this;omega)),if_neg h,List.map_reverse,zP];rfl
theorem QyZ{l:List LT}{w:Int}{lo:Nat}{m:M3}(b:lo<=l.length)(hw:2<=w)(h:m∈mvN l w ((lo:Int),0)):∃p:Nat×Int,m=⟨cst l w p,strN p.1,((p.1:Int),0)⟩/\lo<p.1/\p.1<=l.length/\tw l lo (p.1 - lo)<=w:=by
 unfold mvN at h;split at h
 ·exact nomatch h
 ·rename_i d
  have a:lo<l.length:=by
   refine Nat.lt_of_le_of_ne b λz=>d (by rw[z])
  obtain⟨p,c,rfl⟩:=zx.mp (List.mem_reverse.mp h);have hp':p∈ends l lo w:=c;obtain⟨h1,h2,_,h4,f⟩:=gQ a hw p hp';exact⟨p,rfl,h1,h2,by omega⟩
theorem yx(l:List LT)(w:Int)(hl:l.length<=200)(hw:2<=w)(hw':w<=40)(t:Nat):Trl t (fsE l w) l.length ndN (mvN l w) (eO l) where
 na O a _ _:=QtM (n:=t) (O:=O) a
 mf O a n h ha hn:=by
  obtain rfl:=zk.mp hn;rw[Qyl];exact QAs ⟨h,by omega,hw,hw'⟩ a ha
 ie O a n h ha hn:=by
  obtain rfl:=zk.mp hn;rw[qY];exact PB ⟨h,by omega,hw,hw'⟩ a
 la O h:=QvF ⟨h,by omega,hw,hw'⟩
 fi O _:=Qux
 f0:=zk.mpr rfl
 nd a:=List.nodup_cons.mpr ⟨List.not_mem_nil,List.nodup_nil⟩
 ln a:=show(1:Nat)<=1 by decide
 fw a n ha hn m hm:=by
  obtain rfl:=zk.mp hn;obtain⟨p,rfl,h1,h2,_⟩:=QyZ ha hw hm;exact⟨p.1,h1,h2,zk.mpr rfl⟩
 sp a b n h1 h2:=by
  have:=(zk.mp h1).symm.trans (zk.mp h2)
  have:=congrArg Prod.fst this
  dsimp only at this;omega
 ml n:=by
  unfold mvN
  split
  ·exact Nat.zero_le _
  ·rw[List.length_reverse,zd]
   have:=Hc l n.1.toNat w
   omega
 fe n h:=by
  unfold mvN;rw[if_pos (jh h)]
 u1:=rfl
 u2:=rfl
 u3:=rfl
 u4:=rfl
 u5:=rfl
 hN:=by omega
def pr:Nat->List Nat->List (Nat×Nat)
 | _,[]=>[]
 |lo,e::es=>(lo,e)::pr e es
def dS(p:Nat×Nat):D:=.tup [.int (p.1:Int),.int (p.2:Int)]
theorem PL:∀(es:List Nat) (lo:Nat),kJ (.int (lo:Int)::es.map λe:Nat=>D.int (e:Int)) (es.map λe:Nat=>D.int (e:Int))=(pr lo es).map dS
 | [],lo=>rfl
 |e::es,lo=>by
  rw[ze];show D.tup [.int (lo:Int),.int (e:Int)]::kJ (.int (e:Int)::es.map λe:Nat=>D.int (e:Int)) (es.map λe:Nat=>D.int (e:Int))=_;rw[PL es e];rfl
def jV:List Nat:=[119,111,114,100,115]
def lH:List Nat:=[99,101,108,108,115]
def jW:List Nat:=[101,118,101,110]
theorem PN(w:Int)(h:2<=w/\w<=40)(O:ak):wC [.int w,.int 2,.int 40] O=.ok (.bl true) O:=by
 simp[wC,Dd,CW,CV,h]
inductive Wy3:List Nat->Prop
 | cells:Wy3 lH
 | words:Wy3 jV
 | even:Wy3 jW
theorem Hm(l:List LT)(a:Nat)(w:Int):ends l a w≠[]:=by
 unfold ends
 cases fes l a w (l.length - a) with
 |nil=>exact List.cons_ne_nil _ _
 |cons k b=>exact List.cons_ne_nil _ _
theorem yz{l:List LT}{w:Int}{a:Nat}(h:a≠l.length):mvN l w ((a:Int),0)=((ends l a w).map λp=>(⟨cst l w p,strN p.1,((p.1:Int),0)⟩:M3)).reverse:=by
 unfold mvN;rw[if_neg (λz=>h (by have:=congrArg Prod.fst z;dsimp only at this;omega))];rfl
theorem neN(l:List LT)(w:Int):∀(a:Nat) (n:Nd),a<=l.length->n∈ndN a->eO l n=false->mvN l w n≠[]:=λa n f d c=>by
 obtain rfl:=zk.mp d;rw[qY] at c
 have b:¬a=l.length:=λz=>of_decide_eq_false c (by omega)
 rw[yz b];intro z;rw[List.reverse_eq_nil_iff,List.map_eq_nil_iff] at z;exact Hm l a w z
theorem Hn(l:List LT)(lo:Nat)(w:Int):(ends l lo w).Pairwise λp q=>p.1<q.1:=by
 have h:(fes l lo w (l.length - lo)).Pairwise (· < ·):=List.Pairwise.filter _ List.pairwise_lt_range;unfold ends
 revert h
 cases fes l lo w (l.length - lo) with
 |nil=>exact λ_=>List.pairwise_singleton _ _
 |cons k ks =>
  intro h;refine List.pairwise_map.mpr (h.imp λ{a b} hab=>?_);show lo+a+1<lo+b+1;omega
theorem QtA{α β:Type}{L:List α}{f:α->β}{P:β->Bool}{R:α->α->Prop}(j:L.Pairwise R){m:β}(h:(L.map f).reverse.find? P=some m):∃p,p∈L/\f p=m/\P m=true/\∀b∈L,R b p\/b=p\/P (f b)=false:=by
 obtain⟨h1,E,bs,h2,h3⟩:=List.find?_eq_some_iff_append.mp h;have h4:=List.reverse_eq_append_iff.mp h2;obtain⟨B,i,rfl,c,u⟩:=List.map_eq_append_iff.mp h4;rw[List.reverse_cons] at c;obtain⟨z,y,rfl,C,r⟩:=List.map_eq_append_iff.mp c;obtain⟨p,x,rfl,q,n⟩:=List.map_eq_cons_iff.mp r;have l:=List.map_eq_nil_iff.mp n;subst l;refine⟨p,jp _ (zL _ (zk.mpr rfl)),q,h1,λb a=>?_⟩;obtain⟨g,_,_⟩:=List.pairwise_append.mp j;obtain⟨_,_,d⟩:=List.pairwise_append.mp g
 rcases zz.mp a with a | a
 ·rcases zz.mp a with a | a
  ·exact .inl (d b a p (zk.mpr rfl))
  ·exact .inr (.inl (zk.mp a))
 ·refine .inr (.inr ?_)
  have:f b∈i.map f:=zx.mpr ⟨b,a,rfl⟩
  rw[u] at this
  have:=h3 _ (List.mem_reverse.mp this)
  cases hq:P (f b) with
  |false=>rfl
  |true=>rw[hq] at this;cases this
def px(ps:Tb)(a:Nat):Int:=match lk ps ((a:Int),0) with
 |some (some c)=>c
 | _=>0
section
variable {l:List LT}{w:Int}{ps:Tb}
theorem uQ(d:l.length<=200)(hw:2<=w)(b:w<=40)(g:Pri l.length ndN (mvN l w) (eO l) 0 ps){a:Nat}(h:a<=l.length):lk ps ((a:Int),0)=some (some (px ps a)):=by
 obtain⟨c,f⟩:=Pn (yx l w d hw b 0) (neN l w) g (l.length - a) a ((a:Int),0) (by omega) (zk.mpr rfl);unfold px;rw[f]
def mE(l:List LT)(w:Int)(p:Nat×Int):M3:=⟨cst l w p,strN p.1,((p.1:Int),0)⟩
theorem Ho(d:l.length<=200)(hw:2<=w)(b:w<=40)(c:Pri l.length ndN (mvN l w) (eO l) 0 ps){a:Nat}(f:a<l.length):lc ps (mvN l w ((a:Int),0))=some (px ps a):=by
 have e:=c.at (a:=a) (n:=((a:Int),0)) (by omega) (zk.mpr rfl) (uQ d hw b c (by omega));rw[if_neg (by rw[qY,zf (by omega)];exact zh)] at e;exact e.symm
theorem QxW(d:l.length<=200)(hw:2<=w)(b:w<=40)(c:Pri l.length ndN (mvN l w) (eO l) 0 ps):px ps l.length=0:=by
 have e:=c.at (a:=l.length) (n:=((l.length:Int),0)) (zb _) (zk.mpr rfl) (uQ d hw b c (zb _));rw[if_pos (by rw[qY,zj rfl])] at e;exact zB e
theorem QzA(d:l.length<=200)(hw:2<=w)(b:w<=40)(g:Pri l.length ndN (mvN l w) (eO l) 0 ps){a:Nat}(f:a<l.length){p:Nat×Int}(c:p∈ends l a w):px ps a<=cst l w p+px ps p.1:=by
 have i:=(gQ f hw p c).2.1
 have h:mE l w p∈mvN l w ((a:Int),0):=by
  rw[yz (by omega)];exact List.mem_reverse.mpr (zx.mpr ⟨p,c,rfl⟩)
 exact QzZ (Ho d hw b g f) h (uQ d hw b g i)
def Wk(l:List LT)(w:Int)(ps:Tb):Nat->List (Nat×Int)->Prop
 |lo,[]=>lo=l.length
 |lo,p::qs=>lo<l.length/\p∈ends l lo w/\cst l w p+px ps p.1=px ps lo/\(∀a∈ends l lo w,p.1<a.1->cst l w a+px ps a.1≠px ps lo)/\Wk l w ps p.1 qs
theorem PP(j:l.length<=200)(hw:2<=w)(g:w<=40)(n:Pri l.length ndN (mvN l w) (eO l) 0 ps):∀(ms:List M3) (lo:Nat),lo<=l.length->Wy ps (mvN l w) (eO l) ((lo:Int),0) ms->∃i:List (Nat×Int),(ms.map λm=>D.str m.name)=i.map (λp=>D.str (strN p.1))/\Wk l w ps lo i
 | [],lo,_,h=>⟨[],rfl,by
  have h':eO l ((lo:Int),0)=true:=h;rw[qY] at h'
  have:=jh h'
  show lo=l.length
  omega⟩
 |m::ms,lo,hlo,h=>by
  obtain⟨r,w2,y⟩:=h;rw[qY] at r
  have d:lo<l.length:=Nat.lt_of_le_of_ne hlo λz=>of_decide_eq_false r (by omega)
  rw[Ho j hw g n d,yz (by omega)] at w2;obtain⟨p,u,rfl,C,B⟩:=QtA (Hn l lo w) w2;have x:=(gQ d hw p u).2.1
  have f:∀b,b.1<=l.length->co ps (mE l w b)=some (cst l w b+px ps b.1):=λb c=>Hl (uQ j hw g n c)
  have hc':co ps (mE l w p)=some (px ps lo):=jh C;rw[f p x] at hc';obtain⟨i,F,E⟩:=PP j hw g n ms p.1 x y;refine⟨p::i,by rw[ze,ze,F],d,u,zB hc',λb c a z=>?_,E⟩;have hb':=(gQ d hw b c).2.1
  rcases B b c with q | q | q
  ·exact Nat.lt_asymm q a
  ·rw[q] at a;exact zQ _ a
  ·have q':¬co ps (mE l w b)=some (px ps lo):=of_decide_eq_false q;exact q' (by rw[f b hb',z])
theorem Wk.len:∀{a:List (Nat×Int)}{lo:Nat},2<=w->Wk l w ps lo a->a.length+lo<=l.length
 | [],lo,_,h=>by have:lo=l.length:=h;rw[zU];omega
 |p::a,lo,hw,h=>by
  have:=Wk.len hw h.2.2.2.2
  have:=(gQ h.1 hw p h.2.1).1
  rw[zw];omega
theorem Wk.le:∀{a:List (Nat×Int)}{lo:Nat},2<=w->Wk l w ps lo a->∀p∈a,p.1<=l.length
 | [],_,_,_,p,h=>(nomatch h)
 |p::a,lo,hw,h,x,b=>by
  rcases zo.mp b with rfl | b
  ·exact(gQ h.1 hw _ h.2.1).2.1
  ·exact Wk.le hw h.2.2.2.2 x b
end
def stE(es:List Nat):List (Nat×Nat):=if es=[] then[(0,0)] else pr 0 es
theorem Qsw(l:List LT)(w:Int){O d:ak}{c:Int}{es:List Nat}(hlen:es.length<=1000)(n:∀e∈es,e<=1000)(C:uA [.ob O.length] (O++[.ins "Even" (fsE l w)])=.ok (.tup [.int c,.lst (es.map λe=>D.str (strN e))]) d):qz [.lst (l.map dL),.int w] O=.ok (.lst ((stE es).map dS)) d:=by
 have B:nW "Even" uB (aj (aa 0) (aj (aa 1) aq)) [some (.lst (l.map dL)),some (.int w),none,none] O=.ok (.ob O.length) (O++[.ins "Even" (fsE l w)]):=by
  rw[Z8,maS (x:=.lst (l.map dL)) rfl (ma1 (x:=.int w) rfl),aN,Qxz,Z9]
 have u:aH uA (aj (nW "Even" uB (aj (aa 0) (aj (aa 1) aq))) aq) [some (.lst (l.map dL)),some (.int w),none,none] O=.ok (.tup [.int c,.lst (es.map λe=>D.str (strN e))]) d:=by
  rw[jK,gk,B,aN,gj,aN,aN,C]
 have q:=kW (g:=mgN 0) (t:=cQ) (m:=aY p7 (aj (aa 0) aq)) (λρ=>∃a,ρ=[a]) (λe=>D.str (strN e)) (λe:Nat=>D.int (e:Int)) es [none] d [] ⟨_,rfl⟩ (by
  rintro e he ρ ⟨a,rfl⟩;refine⟨_,rfl,⟨_,rfl⟩,rfl,lE (ma1 rfl) ?_⟩
  have:=n e he
  exact ZJ (i:=(e:Int)) (by omega) (by omega))
 rw[zD] at q;have r:c7 (bY (ao gIx (aa 2) (mC (.int 1)))) 1 [] (mgN 0) cQ (aY p7 (aj (aa 0) aq)) [some (.lst (l.map dL)),some (.int w),some (.tup [.int c,.lst (es.map λe=>D.str (strN e))]),none] d=.ok (.lst (es.map λe:Nat=>D.int (e:Int))) d :=
  lG (fW (l:=es.map λe=>D.str (strN e)) (bx (x:=.tup [.int c,.lst (es.map λe=>D.str (strN e))]) (y:=.int 1) rfl rfl rfl)) (by rw[zd];omega) rfl q
 have h:=G4 (b:=mC (.int 0)) (j:=0) (qQ (m:=aa 3) (ρ:=[some (.lst (l.map dL)),some (.int w),some (.tup [.int c,.lst (es.map λe=>D.str (strN e))]),some (.lst (es.map λe:Nat=>D.int (e:Int)))]) (O:=d) (l:=es.map λe:Nat=>D.int (e:Int)) rfl) rfl;rw[zd] at h;show bu (wZ [some (.lst (l.map dL)),some (.int w),none,none] O)=_;unfold wZ;rw[sq (oV u)];show bu (aD _ _ [some (.lst (l.map dL)),some (.int w),some (.tup [.int c,.lst (es.map λe=>D.str (strN e))]),none] d)=_;rw[sq (bw r)];show bu (aD _ _ [some (.lst (l.map dL)),some (.int w),some (.tup [.int c,.lst (es.map λe=>D.str (strN e))]),some (.lst (es.map λe:Nat=>D.int (e:Int)))] d)=_
 unfold stE
 by_cases f:es=[]
 ·rw[cu,dU (by rw[h,zj (by rw[f];rfl)]),if_pos f];rfl
 ·have E:es.length≠0:=λz=>f (List.eq_nil_of_length_eq_zero z)
  rw[cu,dh (by rw[h,zf (by omega)]),jt,cW,if_neg f]
  rw[dX (lE (g:=gLZ) (z:=.lst ((pr 0 es).map dS)) (maS (x:=.lst (.int ((0:Nat):Int)::es.map λe:Nat=>D.int (e:Int))) (bx (x:=.lst [.int 0]) (y:=.lst (es.map λe:Nat=>D.int (e:Int))) (lD (ma1 rfl) (by decide)) rfl (by
   rw[cT,cT,Ly,if_pos (by rw[zd,zV];omega)]
   rfl)) (ma1 (x:=.lst (es.map λe:Nat=>D.int (e:Int))) rfl)) (by
   show some (D.lst (kJ _ _))=_
   rw[PL]))]
  rfl
def sg(l:List LT):List Nat:=l.map (·.1)
section
variable {l l':List LT}
theorem jy(h:sg l'=sg l):l'.length=l.length:=by
 have:=congrArg List.length h
 unfold sg at this
 rwa [zd,zd] at this
theorem Hq(h:sg l'=sg l)(i:Nat):(l'[i]?).map (λx=>x.1)=(l[i]?).map (λx=>x.1):=by
 have:=congrArg (λx:List Nat=>x[i]?) h
 unfold sg at this
 rwa [zF,zF] at this
theorem yC(h:sg l'=sg l)(k:Nat):sg (l'.drop k)=sg (l.drop k):=by
 unfold sg at *;rw[List.map_drop,List.map_drop,h]
theorem PQ(h:sg l'=sg l)(k:Nat):sg (l'.take k)=sg (l.take k):=by
 unfold sg at *;rw[List.map_take,List.map_take,h]
theorem PX(l:List LT):wsum l=((sg l).map wid).sum:=by
 unfold wsum sg;rw[zP];rfl
theorem P0(h:sg l'=sg l):wsum l'=wsum l:=by rw[PX,PX,h]
def Hr:List Nat->Int->Nat
 | [],_=>0
 |x::xs,w=>if wid x<=w then Hr xs (w - wid x)+1 else 0
theorem Hs:∀(l:List LT) (w:Int),bZ l w=Hr (sg l) w
 | [],_=>rfl
 |x::xs,w=>by
  show(if wid x.1<=w then bZ xs (w - wid x.1)+1 else 0)=if wid x.1<=w then Hr (sg xs) (w - wid x.1)+1 else 0;rw[Hs xs]
theorem Ht(h:sg l'=sg l)(lo:Nat)(w:Int):rch l' lo w=rch l lo w:=by
 unfold rch;rw[Hs,Hs,yC h]
theorem Qa(h:sg l'=sg l):∀n,trn l' n=trn l n
 | 0=>rfl
 |n+1=>by rw[mZ,mZ,Hq h,Qa h n]
theorem QxC(h:sg l'=sg l)(d:D):isB l' d=isB l d:=by
 cases d with
 |int i =>
  unfold isB;dsimp only;rw[jy h,Hq h,Hq h]
 | _=>rfl
theorem Qc(h:sg l'=sg l)(lo k:Nat):tw l' lo k=tw l lo k:=by
 unfold tw;rw[Qa (yC h lo)];exact P0 (PQ (yC h lo) _)
theorem Qy4(h:sg l'=sg l)(lo:Nat)(w:Int):gd l' lo w=gd l lo w:=by
 funext k
 unfold gd;rw[QxC h,Qc h]
theorem Qw3(h:sg l'=sg l)(lo:Nat)(w:Int)(n:Nat):fes l' lo w n=fes l lo w n:=by
 unfold fes;rw[Qy4 h]
theorem Qd(h:sg l'=sg l)(lo:Nat)(w:Int):ends l' lo w=ends l lo w:=by
 unfold ends;rw[Qw3 h,jy h,Ht h,P0 (PQ (yC h lo) _)]
 cases fes l lo w (l.length - lo) with
 |nil=>rfl
 |cons k ks =>
  dsimp only
  refine jc λj _=>?_
  rw[Qc h]
theorem Qx3(h:sg l'=sg l)(w:Int)(p:Nat×Int):cst l' w p=cst l w p:=by
 unfold cst;rw[jy h]
theorem Qyc(h:sg l'=sg l)(w:Int):mvN l' w=mvN l w:=by
 funext n
 unfold mvN;rw[jy h,Qd h]
 split
 ·rfl
 ·congr 1
  refine jc λp _=>?_
  rw[Qx3 h]
theorem Qwr(h:sg l'=sg l):eO l'=eO l:=by
 funext n
 unfold eO;rw[jy h]
end
def oW:List Nat:=[99,117,116]
def Kp(O a:ak):Prop:=∀(j:Nat) (x:Ob),O[j]?=some x->a[j]?=some x
theorem Kp.rfl'{O:ak}:Kp O O:=λ_ _ h=>h
theorem Kp.tr{O b a:ak}(h:Kp O b)(h2:Kp b a):Kp O a:=λj x q=>h2 j x (h j x q)
def Ans(l:List LT)(w:Int)(y:List Nat)(st:List (Nat×Nat)):Prop:=∀a:List LT,sg a=sg l->∀O:ak,∃b,oM [.lst (a.map dL),.int w,.str y] O=.ok (.lst (st.map dS)) b/\Kp O b
inductive Wy4:List Nat->Prop
 | cut:Wy4 oW
 | cells:Wy4 lH
 | words:Wy4 jV
 | even:Wy4 jW
theorem Qe{y:List Nat}(h:Wy4 y)(O:ak):w5 [.str y] O=.ok (.bl true) O:=by
 have q:gIn false (.str y) (.tup [.str [99,117,116],.str [99,101,108,108,115],.str [119,111,114,100,115],.str [101,118,101,110]])=some (.bl true):=by
  cases h<;>rfl
 simp only[w5,En,fQ,ze,zO,zw,zU,Nat.sub_self,List.replicate_zero,zH,ju,By,Lp,fL,zS,aN,Bw,ZP,Lj,Z1,ZM,if_true,gM,m_c,ZK,q,dR,vX,vY]
def yD:MS:=(aD (bc (aJ (ao gEq (aa 2) (mC (.str [99,117,116])))) (aV (bI (aj (cG (aj (mC (.int 0)) (aj (aH mU (aj (aa 0) (aj (mC (.int 0)) (aj (aa 1) aq)))) aq))) aq))) bj)
  (aD (bc (aJ (ao gEq (aa 2) (mC (.str [101,118,101,110])))) (aV (aH qz (aj (aa 0) (aj (aa 1) aq)))) bj)
  (aV (aH uE (aj (aa 0) (aj (aa 1) (aj (aa 2) aq)))))))
theorem QtR(w:Int)(hw:2<=w/\w<=40){y:List Nat}(a:Wy4 y)(O:ak):oM [.lst (([]:List LT).map dL),.int w,.str y] O=.ok (.lst ([((0:Nat),(0:Nat))].map dS)) O:=by
 have c:=PN w hw O;have b:=Qe a O;show bu (qD [some (.lst []),some (.int w),some (.str y)] O)=_;unfold qD;rw[cu,not_no ((bz (maS (x:=.int w) rfl (maS (x:=.int 2) rfl (ma1 (x:=.int 40) rfl)))).trans c),cW,cu,not_no ((bz (ma1 (x:=.str y) rfl)).trans b),cW];rfl
theorem Hu(l:List LT)(h0:l≠[])(w:Int)(hw:2<=w/\w<=40){y:List Nat}(d:Wy4 y)(O:ak):oM [.lst (l.map dL),.int w,.str y] O=bu (yD [some (.lst (l.map dL)),some (.int w),some (.str y)] O):=by
 have g:=PN w hw O;have f:=Qe d O;have c:0<l.length:=List.length_pos_iff.mpr h0;have a:=G4 (b:=mC (.int 0)) (j:=0) (qQ (m:=aa 0) (ρ:=[some (.lst (l.map dL)),some (.int w),some (.str y)]) (O:=O) (l:=l.map dL) rfl) rfl;rw[zd] at a;show bu (qD [some (.lst (l.map dL)),some (.int w),some (.str y)] O)=_;unfold qD;rw[cu,not_no ((bz (maS (x:=.int w) rfl (maS (x:=.int 2) rfl (ma1 (x:=.int 40) rfl)))).trans g),cW,cu,not_no ((bz (ma1 (x:=.str y) rfl)).trans f),cW,cu,dh (by rw[a,zf (by omega)]),jt,cW];rfl
theorem Qxl{a:List LT}(h:sg a=sg []):a=[]:=List.eq_nil_of_length_eq_zero (jy h)
theorem Hv{l a:List LT}(h:sg a=sg l)(h0:l≠[]):a≠[]:=λz=>h0 (List.eq_nil_of_length_eq_zero (by rw[<-jy h,z];rfl))
theorem QvL(w:Int)(hw:2<=w/\w<=40){y:List Nat}(a:Wy4 y):Ans [] w y [(0,0)]:=λb h O=>by
 rw[Qxl h];exact⟨O,QtR w hw a O,Kp.rfl'⟩
theorem Qvu(l:List LT)(h0:l≠[])(c:l.length<=200)(w:Int)(hw:2<=w/\w<=40):Ans l w oW [(0,rch l 0 w)]:=λa h O=>by
 have hl':=jy h;refine⟨O,?_,Kp.rfl'⟩;have b:=yo a 0 w (by omega) (Nat.zero_le _) O;rw[Hu a (Hv h h0) w hw Wy4.cut O];unfold yD
 rw[cu,dU (show aJ (ao gEq (aa 2) (mC (.str [99,117,116]))) [some (.lst (a.map dL)),some (.int w),some (.str oW)] O=.ok true O from rfl),dX (d:=.lst [dS (0,rch l 0 w)]) (lD (ma1 (jx (maS (x:=.int 0) rfl (ma1 (x:=.int (rch l 0 w:Nat)) (by
  rw[bz (maS (x:=.lst (a.map dL)) rfl (maS (x:=.int 0) rfl (ma1 (x:=.int w) rfl))),<-Ht h]
  exact b))) (show(2:Nat)<=1000000 by decide))) (show(1:Nat)<=1000000 by decide))]
 rfl
theorem Qum(l:List LT)(h0:l≠[])(w:Int)(hw:2<=w/\w<=40){st:List (Nat×Nat)}(c:∀a:List LT,sg a=sg l->∀O:ak,∃b,qz [.lst (a.map dL),.int w] O=.ok (.lst (st.map dS)) b/\∀(j:Nat) (x:Ob),O[j]?=some x->b[j]?=some x):Ans l w jW st:=λa h O=>by
 obtain⟨b,e,k⟩:=c a h O;refine⟨b,?_,k⟩;rw[Hu a (Hv h h0) w hw Wy4.even O];unfold yD;rw[cu,dh (show aJ (ao gEq (aa 2) (mC (.str [99,117,116]))) [some (.lst (a.map dL)),some (.int w),some (.str jW)] O=.ok false O from rfl),jt,cW,cu,dU (show aJ (ao gEq (aa 2) (mC (.str [101,118,101,110]))) [some (.lst (a.map dL)),some (.int w),some (.str jW)] O=.ok true O from rfl),dX ((bz (maS (x:=.lst (a.map dL)) rfl (ma1 (x:=.int w) rfl))).trans e)];rfl
def ky:Bool->List Nat
 |true=>jV
 |false=>lH
def nxt(a:Bool)(l:List LT)(lo:Nat)(w:Int):Nat:=if a=true then((ends l lo w).getLast?.getD (0,0)).1 else rch l lo w
theorem Qyi{l b:List LT}(h:sg b=sg l)(a:Bool)(lo:Nat)(w:Int):nxt a b lo w=nxt a l lo w:=by
 unfold nxt;rw[Qd h,Ht h]
theorem QwT(X:List D)(d:D):gIx (.lst (X++[d])) (.int (-1))=some d:=by
 rw[wg];unfold atI ixN;rw[if_neg (by decide),if_pos (by rw[zn,zV];omega),Option.bind_some,zn,zV,show((-1:Int)+((X.length+1:Nat):Int)).toNat=X.length by omega,zC (zb _),Nat.sub_self];rfl
theorem Hw(l:List LT)(lo:Nat)(w:Int):∃p X,ends l lo w=X++[p]/\nxt true l lo w=p.1:=by
 have a:=Hm l lo w;refine⟨(ends l lo w).getLast a,(ends l lo w).dropLast,(List.dropLast_concat_getLast a).symm,?_⟩;unfold nxt;rw[if_pos rfl,List.getLast?_eq_some_getLast a];rfl
theorem Hx(g:Bool){l:List LT}{lo:Nat}{w:Int}(f:lo<l.length)(hw:2<=w):lo<nxt g l lo w/\nxt g l lo w<=l.length/\tw l lo (nxt g l lo w - lo)<=w:=by
 cases g with
 |true =>
  obtain⟨p,X,h1,h2⟩:=Hw l lo w;obtain⟨a,b,_,c,d⟩:=gQ f hw p (by rw[h1];exact zL _ (zk.mpr rfl));rw[h2];exact⟨a,b,by omega⟩
 |false =>
  have e:nxt false l lo w=rch l lo w:=rfl;have m:=N7 l lo w f hw;have j:=G7 l lo w (by omega)
  have h:rch l lo w - lo=bZ (l.drop lo) w:=by unfold rch;omega
  have i:=yp (l.drop lo) w (rch l lo w - lo) (by omega) (by omega);rw[e];exact⟨m,j,Int.le_trans (Oe _ _ _) i⟩
theorem Qwa(a:Bool)(l:List LT)(lo:Nat)(w:Int)(b:l.length<=1000)(g:lo<l.length)(O:ak):uC [.lst (l.map dL),.int (lo:Int),.int w,.str (ky a)] O=.ok (.int (nxt a l lo w:Nat)) O:=by
 cases a with
 |false =>
  have f:=yo l lo w b (by omega) O;show bu (qC [some (.lst (l.map dL)),some (.int (lo:Int)),some (.int w),some (.str lH)] O)=_;unfold qC;rw[cu,dh (show aJ (ao gEq (aa 3) (mC (.str [119,111,114,100,115]))) [some (.lst (l.map dL)),some (.int (lo:Int)),some (.int w),some (.str lH)] O=.ok false O from rfl),jt,cW,dX ((bz (maS (x:=.lst (l.map dL)) rfl (maS (x:=.int (lo:Int)) rfl (ma1 (x:=.int w) rfl)))).trans f)];rfl
 |true =>
  have c:=Oh l lo w b (by omega) O;obtain⟨p,X,h1,h2⟩:=Hw l lo w;rw[h1,zK] at c;show bu (qC [some (.lst (l.map dL)),some (.int (lo:Int)),some (.int w),some (.str jV)] O)=_;unfold qC;rw[cu,dU (show aJ (ao gEq (aa 3) (mC (.str [119,111,114,100,115]))) [some (.lst (l.map dL)),some (.int (lo:Int)),some (.int w),some (.str jV)] O=.ok true O from rfl),h2,dX (d:=.int (p.1:Int)) (bx (x:=dE p) (y:=.int 0) (bx (x:=.lst (X.map dE++[dE p])) (y:=.int (-1)) ((bz (maS (x:=.lst (l.map dL)) rfl (maS (x:=.int (lo:Int)) rfl (ma1 (x:=.int w) rfl)))).trans c) rfl (QwT _ _)) rfl rfl)];rfl
def esF(a:Bool)(l:List LT)(w:Int):Nat->Nat->List Nat
 | 0,_=>[]
 |f+1,lo=>if lo<l.length then nxt a l lo w::esF a l w f (nxt a l lo w) else[]
theorem Qf{l b:List LT}(h:sg b=sg l)(a:Bool)(w:Int):∀f lo,esF a b w f lo=esF a l w f lo
 | 0,_=>rfl
 |f+1,lo=>by
  unfold esF;rw[jy h,Qyi h,Qf h a w f]
def yE:MS:=(aD (aF 5 (aH uC (aj (aa 0) (aj (aa 4) (aj (aa 1) (aj (aa 2) aq))))))
  (aD (dq 3 (cG (aj (aa 4) (aj (aa 5) aq))))
  (aF 4 (aa 5))))
def nE(l:List LT)(w:Int)(y:List Nat)(acc:List (Nat×Nat))(lo:Nat)(a:Option D):az:=[some (.lst (l.map dL)),some (.int w),some (.str y),some (.lst (acc.map dS)),some (.int (lo:Int)),a]
theorem Qg(b:Bool)(l:List LT)(w:Int)(j:l.length<=1000)(hw:2<=w)(O:ak):∀(f lo:Nat) (acc:List (Nat×Nat)) (c:Option D),lo<=l.length->l.length - lo<f->acc.length<=lo ->
  ∃g,dw (aJ (ao gLt (aa 4) (aY bT (aj (aa 0) aq)))) yE f (nE l w (ky b) acc lo c) O=.nx (nE l w (ky b) (acc++pr lo (esF b l w f lo)) l.length g) O
 | 0,lo,acc,c,_,h,_=>absurd h (Nat.not_lt_zero _)
 |f+1,lo,acc,c,hlo,hf,ha=>by
  have hlen:=qQ (m:=aa 0) (ρ:=nE l w (ky b) acc lo c) (O:=O) (l:=l.map dL) rfl;rw[zd] at hlen;have t:=qR (a:=aa 4) (i:=(lo:Int)) rfl hlen;unfold esF
  by_cases h:lo=l.length
  ·refine⟨c,?_⟩;rw[m6 (by rw[t,zf (by omega)]),if_neg (by omega),show pr lo []=[] from rfl,zH,h]
  ·have u:=Qwa b l lo w j (by omega) O;obtain⟨h1,h2,h3⟩:=Hx b (show lo<l.length by omega) hw;rw[if_pos (by omega)]
   generalize nxt b l lo w=e at *
   have n:aH uC (aj (aa 0) (aj (aa 4) (aj (aa 1) (aj (aa 2) aq)))) (nE l w (ky b) acc lo c) O=.ok (.int (e:Int)) O:=(bz (maS rfl (maS rfl (maS rfl (ma1 rfl))))).trans u
   have q:yE (nE l w (ky b) acc lo c) O=.nx (nE l w (ky b) (acc++[(lo,e)]) e (some (.int (e:Int)))) O:=by
    unfold yE;rw[sq (bw n)];show aD _ _ (nE l w (ky b) acc lo (some (.int (e:Int)))) O=_;rw[sq (oR (ds:=acc.map dS) (d:=dS (lo,e)) (jx (maS rfl (ma1 rfl)) (show(2:Nat)<=1000000 by decide)) rfl (by rw[zd];omega))];show aF 4 (aa 5) [some (.lst (l.map dL)),some (.int w),some (.str (ky b)),some (.lst (acc.map dS++[dS (lo,e)])),some (.int (lo:Int)),some (.int (e:Int))] O=_;rw[bw (d:=.int (e:Int)) rfl];unfold nE;rw[zK];rfl
   obtain⟨g,r⟩:=Qg b l w j hw O f e (acc++[(lo,e)]) (some (.int (e:Int))) h2 (by omega) (by rw[zn,zV];omega);refine⟨g,?_⟩;rw[m5 (by rw[t,zj (by omega)]) q,r,zI];rfl
theorem Qxa(a:Bool)(l:List LT)(w:Int)(b:l.length<=1000)(hw:2<=w)(O:ak):uE [.lst (l.map dL),.int w,.str (ky a)] O=.ok (.lst ((pr 0 (esF a l w wF 0)).map dS)) O:=by
 obtain⟨c,e⟩:=Qg a l w b hw O wF 0 [] none (Nat.zero_le _) (by unfold wF;omega) (Nat.zero_le _)
 generalize esF a l w wF 0=f at e
 rw[zD] at e;unfold yE at e;show bu (w6 [some (.lst (l.map dL)),some (.int w),some (.str (ky a)),none,none,none] O)=_;unfold w6;rw[sq (bw (d:=.lst []) (lD rfl (Nat.zero_le _)))];rw[sq (bw (d:=.int 0) rfl)];show bu (aD _ _ (nE l w (ky a) [] 0 none) O)=_;rw[cu,uh,e,cW];rfl
def Nx(a:Bool)(l:List LT)(w:Int):Nat->List Nat->Prop
 |lo,[]=>lo=l.length
 |lo,e::es=>lo<l.length/\e=nxt a l lo w/\Nx a l w e es
theorem Qh(a:Bool){l:List LT}{w:Int}(hw:2<=w):∀f lo,lo<=l.length->l.length - lo<f->Nx a l w lo (esF a l w f lo)
 | 0,lo,_,h=>absurd h (Nat.not_lt_zero _)
 |f+1,lo,hlo,hf=>by
  unfold esF
  by_cases h:lo<l.length
  ·rw[if_pos h];obtain⟨h1,h2,_⟩:=Hx a h hw;exact⟨h,rfl,Qh a hw f _ h2 (by omega)⟩
  ·rw[if_neg h];show lo=l.length;omega
theorem Qya(a:Bool)(l:List LT)(w:Int)(c:l.length<=200)(hw:2<=w):∃es,Nx a l w 0 es/\∀b:List LT,sg b=sg l->∀O:ak,uE [.lst (b.map dL),.int w,.str (ky a)] O=.ok (.lst ((pr 0 es).map dS)) O:=by
 refine⟨esF a l w wF 0,Qh a hw wF 0 (Nat.zero_le _) (by unfold wF;omega),λb h O=>?_⟩;have hl':=jy h;rw[<-Qf h];exact Qxa a b w (by omega) hw O
theorem ky4(a:Bool):Wy4 (ky a):=by
 cases a
 ·exact Wy4.cells
 ·exact Wy4.words
theorem QvN(a:Bool)(l:List LT)(h0:l≠[])(f:l.length<=200)(w:Int)(hw:2<=w/\w<=40):∃es,Nx a l w 0 es/\Ans l w (ky a) (pr 0 es):=by
 obtain⟨es,h1,h2⟩:=Qya a l w f hw.1;refine⟨es,h1,λb h O=>⟨O,?_,Kp.rfl'⟩⟩;have e:=h2 b h O;rw[Hu b (Hv h h0) w hw (ky4 a) O];unfold yD
 have d:aJ (ao gEq (aa 2) (mC (.str [99,117,116]))) [some (.lst (b.map dL)),some (.int w),some (.str (ky a))] O=.ok false O:=by cases a<;>rfl
 have c:aJ (ao gEq (aa 2) (mC (.str [101,118,101,110]))) [some (.lst (b.map dL)),some (.int w),some (.str (ky a))] O=.ok false O:=by cases a<;>rfl
 rw[cu,dh d,jt,cW,cu,dh c,jt,cW,dX ((bz (maS (x:=.lst (b.map dL)) rfl (maS (x:=.int w) rfl (ma1 (x:=.str (ky a)) rfl)))).trans e)];rfl
def dW(x:List LT):D:=.lst (x.map dL)
theorem Hy(l:List LT)(d:l.length<=1000)(O:ak):uI [dW l] O=.ok (.int (wsum l)) O:=by
 have b:=kW (g:=mgN 0) (t:=cQ) (m:=ao aZ (mC (.int 1)) (aY pJ (aj (j7 gLe gLe (mC (.str [65])) (ao gIx (aa 0) (mC (.int 0))) (mC (.str [90]))) aq))) (λρ=>∃a,ρ=[a]) dL (λx=>D.int (wid x.1)) l [none] O [] ⟨_,rfl⟩ (by
  rintro x hx ρ ⟨a,rfl⟩;refine⟨_,rfl,⟨_,rfl⟩,rfl,?_⟩
  by_cases h1:65<=x.1<;>by_cases h2:x.1<=90<;>simp[dL,wid,h1,h2])
 rw[zD] at b;have c:=NZ (λx:LT=>wid x.1) l (λx _=>N5 _) (by omega);show bu (xJ [some (dW l)] O)=_;unfold xJ;rw[dX (lE (z:=.int (wsum l)) (ma1 (lG (fW (l:=l.map dL) rfl) (by rw[zd];omega) rfl b)) c)];rfl
theorem uR{m b:L2.M D}{ρ:az}{O:ak}{l:List LT}{k:Nat}(a:m ρ O=.ok (dW l) O)(hb:b ρ O=.ok (.int (k:Int)) O):mSl m moN (moS b) ρ O=.ok (dW (l.take k)) O:=by
 unfold dW at *;rw[qe,a,aN,vW,aN,oF,hb,aN,oA,aN,cT,qg,Qx7,dR,List.map_take]
theorem Qi{m b:L2.M D}{ρ:az}{O:ak}{l:List LT}{k:Nat}(a:m ρ O=.ok (dW l) O)(hb:b ρ O=.ok (.int (k:Int)) O):mSl m (moS b) moN ρ O=.ok (dW (l.drop k)) O:=by
 unfold dW at *;rw[qe,a,aN,oF,hb,aN,oA,aN,vW,aN,cT,qg,NQ,dR,List.map_drop]
theorem yF{m a b:L2.M D}{ρ:az}{O:ak}{l:List LT}{i k:Nat}(c:m ρ O=.ok (dW l) O)(d:a ρ O=.ok (.int (i:Int)) O)(hb:b ρ O=.ok (.int (k:Int)) O):mSl m (moS a) (moS b) ρ O=.ok (dW ((l.drop i).take (k - i))) O:=by
 unfold dW at *;rw[qe,c,aN,oF,d,aN,oA,aN,oF,hb,aN,oA,aN,cT,qg,NP,dR,List.map_take,List.map_drop]
theorem lJ{m:L2.M D}{ρ:az}{O:ak}{l:List LT}(h:m ρ O=.ok (dW l) O):aY bT (aj m aq) ρ O=.ok (.int (l.length:Int)) O:=by
 have:=qQ (l:=l.map dL) h
 rwa [zd] at this
theorem and_f{a b:L2.M Bool}{ρ:az}{O:ak}(h1:a ρ O=.ok false O):eV a b ρ O=.ok false O:=by
 rw[mJ,h1,aN,if_neg zh]
theorem and_t{b a:L2.M Bool}{ρ:az}{O:ak}(h1:b ρ O=.ok true O):eV b a ρ O=a ρ O:=by
 rw[mJ,h1,aN,if_pos rfl]
theorem yG{a b:L2.M D}{ρ:az}{O:ak}{i j:Int}(c:a ρ O=.ok (.int i) O)(hb:b ρ O=.ok (.int j) O):aJ (ao gGt a b) ρ O=.ok (decide (j<i)) O:=fB (bx c hb rfl)
theorem yH{a b:L2.M D}{ρ:az}{O:ak}{i j:Int}(c:a ρ O=.ok (.int i) O)(hb:b ρ O=.ok (.int j) O):aJ (ao gLe a b) ρ O=.ok (decide (i<=j)) O:=fB (bx c hb BW)
theorem qZ{a b:L2.M D}{ρ:az}{O:ak}{i j:Int}(c:a ρ O=.ok (.int i) O)(hb:b ρ O=.ok (.int j) O):ao dB a b ρ O=.ok (.int (i - j)) O:=bx c hb rfl
theorem jz{a b:L2.M D}{ρ:az}{O:ak}{i j:Int}(c:a ρ O=.ok (.int i) O)(hb:b ρ O=.ok (.int j) O):ao aZ a b ρ O=.ok (.int (i+j)) O:=bx c hb mL
theorem Hz{m a:L2.M D}{ρ:az}{O:ak}{l:List LT}{i:Nat}{x:LT}(c:m ρ O=.ok (dW l) O)(d:a ρ O=.ok (.int (i:Int)) O)(b:l[i]?=some x):ao gIx (ao gIx m a) (mC (.int 0)) ρ O=.ok (.str [x.1]) O:=bx (x:=dL x) (y:=.int 0) (bx c d (ixs b)) rfl rfl
theorem Qj(a b:Nat):decide (([a]:List Nat)=[b])=decide (a=b):=by
 by_cases h:a=b
 ·rw[h,zj rfl,zj rfl]
 ·rw[zf h,zf λz=>h (List.cons.inj z).1]
theorem Qk{a b:L2.M D}{ρ:az}{O:ak}{i j:Nat}(c:a ρ O=.ok (.str [i]) O)(hb:b ρ O=.ok (.str [j]) O):ao gEq a b ρ O=.ok (.bl (decide (i=j))) O:=bx c hb (by rw[<-Qj];rfl)
theorem Qyf{a b:L2.M D}{ρ:az}{O:ak}{i j:Nat}(c:a ρ O=.ok (.str [i]) O)(hb:b ρ O=.ok (.str [j]) O):ao gNe a b ρ O=.ok (.bl (!decide (i=j))) O:=bx c hb (by rw[<-Qj];rfl)
def uT:L2.M Bool:=eV (aJ (ao gGt (aa 1) (mC (.int 0)))) (aJ (ao gEq (ao gIx (ao gIx (aa 0) (ao dB (aa 1) (mC (.int 1)))) (mC (.int 0))) (mC (.str [32]))))
theorem Ql(l:List LT)(O:ak):∀(n f:Nat),n<=l.length->n<f->dw uT (aF 1 (ao dB (aa 1) (mC (.int 1)))) f [some (dW l),some (.int (n:Int))] O=.nx [some (dW l),some (.int (trn l n:Nat))] O
 | 0,f,_,hf=>by
  obtain⟨f,rfl⟩:∃g,f=g+1:=⟨f - 1,by omega⟩;have u:uT [some (dW l),some (.int ((0:Nat):Int))] O=.ok false O:=and_f (yG (i:=((0:Nat):Int)) (j:=0) rfl rfl);rw[m6 u];rfl
 |n+1,f,hn,hf=>by
  obtain⟨f,rfl⟩:∃g,f=g+1:=⟨f - 1,by omega⟩;have r:=zv (show n<l.length by omega);obtain⟨x,ex⟩:∃x,l[n]=x:=⟨_,rfl⟩;rw[ex] at r;have d:=yG (a:=aa 1) (b:=mC (.int 0)) (ρ:=[some (dW l),some (.int ((n+1:Nat):Int))]) (O:=O) (i:=((n+1:Nat):Int)) (j:=0) rfl rfl;rw[zj (by omega)] at d;have q:=qZ (a:=aa 1) (b:=mC (.int 1)) (ρ:=[some (dW l),some (.int ((n+1:Nat):Int))]) (O:=O) (i:=((n+1:Nat):Int)) (j:=1) rfl rfl;rw[show((n+1:Nat):Int) - 1=(n:Int) by omega] at q;have c:=fB (Qk (b:=mC (.str [32])) (j:=32) (Hz (m:=aa 0) (l:=l) rfl q r) rfl);rw[mZ,r]
  by_cases h:x.1=32
  ·rw[zj h] at c;rw[m5 (show uT _ O=_ from(and_t d).trans c) (bw q)];rw[if_pos (show Option.map (λx:LT=>x.1) (some x)=some 32 from congrArg some h)];exact Ql l O n f (by omega) (by omega)
  ·rw[zf h] at c;rw[m6 (show uT _ O=_ from(and_t d).trans c)];rw[if_neg (show ¬Option.map (λx:LT=>x.1) (some x)=some 32 from λz=>h (zB z))]
theorem Qm(l:List LT)(g:l.length<=1000)(O:ak):jR [dW l] O=.ok (.int (wsum (l.take (trn l l.length)))) O:=by
 have d:aF 1 (aY bT (aj (aa 0) aq)) [some (dW l),none] O=.nx [some (dW l),some (.int (l.length:Int))] O:=bw (lJ rfl);have a:=Ql l O l.length wF (zb _) (by unfold wF;omega);have c:=(bz (ma1 (uR (m:=aa 0) (b:=aa 1) (ρ:=[some (dW l),some (.int (trn l l.length:Nat))]) (O:=O) (l:=l) rfl rfl))).trans (Hy (l.take (trn l l.length)) (by rw[List.length_take];omega) O)
 have f:jR [dW l] O=bu (xK [some (dW l),none] O):=by
  unfold jR;rw[fQ];rfl
 rw[f];unfold xK;unfold uT at a;rw[sq d,cu,uh,a,cW,dX c];rfl
theorem Qn(l:List LT):∀(k n:Nat),k<=n->trn (l.take n) k=trn l k
 | 0,_,_=>rfl
 |k+1,n,h=>by
  rw[mZ,mZ,List.getElem?_take_of_lt (by omega),Qn l k n (by omega)]
theorem Qo(l:List LT)(lo k:Nat)(h:lo+k<=l.length):wsum (((l.drop lo).take k).take (trn ((l.drop lo).take k) ((l.drop lo).take k).length))=tw l lo k:=by
 have a:((l.drop lo).take k).length=k:=by rw[List.length_take,List.length_drop];omega
 rw[a,Qn _ _ _ (zb _),List.take_take,Nat.min_eq_left (yj _ _)];rfl
def uU:L2.M Bool:=eV (aJ (ao gLt (aa 2) (aY bT (aj (aa 0) aq)))) (aJ (ao gLe (aH uI (aj (mSl (aa 0) moN (moS (ao aZ (aa 2) (mC (.int 1))))) aq)) (aa 1)))
theorem Qp:∀(l:List LT) (w:Int) (k:Nat),k<=l.length->wsum (l.take k)<=w->k<=bZ l w
 |l,w,0,_,_=>Nat.zero_le _
 | [],w,k+1,h,_=>absurd h (Nat.not_succ_le_zero _)
 |x::l,w,k+1,h,hw=>by
  rw[List.take_succ_cons,uK] at hw
  have:=uL (l.take k)
  unfold bZ;rw[if_pos (by omega)]
  have:=Qp l (w - wid x.1) k (by rw[zw] at h;omega) (by omega)
  omega
theorem QvT(l:List LT)(y:l.length<=1000)(w:Int)(hw:0<=w)(O:ak):∀(j k f:Nat),k+j=bZ l w->j<f->dw uU (aF 2 (ao aZ (aa 2) (mC (.int 1)))) f [some (dW l),some (.int w),some (.int (k:Int))] O=.nx [some (dW l),some (.int w),some (.int (bZ l w:Nat))] O:=by
 intro j
 induction j with
 |zero =>
  intro k f u x;obtain⟨f,rfl⟩:∃g,f=g+1:=⟨f - 1,by omega⟩;have q:=qU l w;have ln:=lJ (m:=aa 0) (ρ:=[some (dW l),some (.int w),some (.int (k:Int))]) (O:=O) (l:=l) rfl;have c:=qR (a:=aa 2) (i:=(k:Int)) rfl ln;have d:=jz (a:=aa 2) (b:=mC (.int 1)) (ρ:=[some (dW l),some (.int w),some (.int (k:Int))]) (O:=O) (i:=(k:Int)) (j:=1) rfl rfl;rw[show(k:Int)+1=((k+1:Nat):Int) by omega] at d;have n:=yH (b:=aa 1) (j:=w) ((bz (ma1 (uR (m:=aa 0) (l:=l) rfl d))).trans (Hy (l.take (k+1)) (by rw[List.length_take];omega) O)) rfl
  have hk':k=bZ l w:=by omega
  have r:uU [some (dW l),some (.int w),some (.int (k:Int))] O=.ok false O:=by
   unfold uU
   by_cases h:k<l.length
   ·rw[zj (by omega)] at c;rw[and_t c,n]
    rw[zf λz=>by
     have:=Qp l w (k+1) (by omega) z
     omega]
   ·rw[zf (by omega)] at c;exact and_f c
  rw[m6 r,hk']
 |succ j ih =>
  intro k f u x;obtain⟨f,rfl⟩:∃g,f=g+1:=⟨f - 1,by omega⟩;have q:=qU l w;have ln:=lJ (m:=aa 0) (ρ:=[some (dW l),some (.int w),some (.int (k:Int))]) (O:=O) (l:=l) rfl;have c:=qR (a:=aa 2) (i:=(k:Int)) rfl ln;have d:=jz (a:=aa 2) (b:=mC (.int 1)) (ρ:=[some (dW l),some (.int w),some (.int (k:Int))]) (O:=O) (i:=(k:Int)) (j:=1) rfl rfl;rw[show(k:Int)+1=((k+1:Nat):Int) by omega] at d;have n:=yH (b:=aa 1) (j:=w) ((bz (ma1 (uR (m:=aa 0) (l:=l) rfl d))).trans (Hy (l.take (k+1)) (by rw[List.length_take];omega) O)) rfl;rw[zj (by omega)] at c;rw[zj (yp l w (k+1) hw (by omega))] at n
  rw[m5 (show uU _ O=_ from(and_t c).trans n) (bw d)];exact ih (k+1) f (by omega) (by omega)
theorem yI(l:List LT)(c:l.length<=1000)(w:Int)(hw:0<=w)(O:ak):iH [dW l,.int w] O=.ok (.int (bZ l w:Nat)) O:=by
 have f:=qU l w;have a:=QvT l c w hw O (bZ l w) 0 wF (by omega) (by unfold wF;omega);have b:aF 2 (mC (.int 0)) [some (dW l),some (.int w),none] O=.nx [some (dW l),some (.int w),some (.int ((0:Nat):Int))] O:=bw rfl
 have d:iH [dW l,.int w] O=bu (xN [some (dW l),some (.int w),none] O):=by
  unfold iH;rw[fQ];rfl
 rw[d];unfold xN;unfold uU at a;rw[sq b,cu,uh,a,cW];rfl
def iN(n:Nat):D:=.int (n:Int)
def enN(l:List LT)(lo:Nat)(w:Int):List Nat:=(ends l lo w).map (·.1)
theorem Qze{a b:L2.M D}{ρ:az}{O:ak}(h:a ρ O=.ok (.bl true) O):nJ a b ρ O=.ok (.bl true) O:=by
 rw[Li,h,aN];rfl
theorem QyY{a b:L2.M D}{ρ:az}{O:ak}(h:a ρ O=.ok (.bl false) O):nJ a b ρ O=b ρ O:=by
 rw[Li,h,aN];rfl
theorem Qq{a b:L2.M D}{ρ:az}{O:ak}(h:a ρ O=.ok (.bl true) O):ik a b ρ O=b ρ O:=by
 rw[By,h,aN];rfl
theorem Qzd{a b:L2.M D}{ρ:az}{O:ak}(h:a ρ O=.ok (.bl false) O):ik a b ρ O=.ok (.bl false) O:=by
 rw[By,h,aN];rfl
theorem HB{a b:L2.M D}{ρ:az}{O:ak}{i j:Int}(c:a ρ O=.ok (.int i) O)(hb:b ρ O=.ok (.int j) O):ao gEq a b ρ O=.ok (.bl (decide (i=j))) O:=bx c hb rfl
def uV:L2.M D:=(nJ (ao gEq (aa 4) (aY bT (aj (aa 0) aq))) (ik (ao gEq (ao gIx (ao gIx (aa 0) (ao dB (aa 4) (mC (.int 1)))) (mC (.int 0))) (mC (.str [32]))) (ao gNe (ao gIx (ao gIx (aa 0) (aa 4)) (mC (.int 0))) (mC (.str [32])))))
def uW:MS:=(aD (aF 5 uV)
  (aD (aF 6 (aH jR (aj (mSl (aa 0) (moS (mG (aa 1))) (moS (aa 4))) aq)))
  (aD (bc (eV (cz (aa 5)) (aJ (ao gLe (aa 6) (aa 2)))) (dq 3 (aa 4)) bj)
  (bc (aJ (ao gGt (aa 6) (aa 2))) pF bj))))
def oE(l:List LT)(lo:Nat)(w:Int)(acc:List Nat)(c b a:Option D):az:=[some (dW l),some (.int (lo:Int)),some (.int w),some (.lst (acc.map iN)),c,b,a]
theorem QzL(l:List LT)(lo k:Nat)(w:Int)(h:lo+k<l.length)(acc:List Nat)(n m:Option D)(O:ak):uV (oE l lo w acc (some (iN (lo+k+1))) n m) O=.ok (.bl (isB l (.int (1+((lo+k:Nat):Int))))) O:=by
 obtain⟨ρ,a⟩:∃ρ,ρ=oE l lo w acc (some (iN (lo+k+1))) n m:=⟨_,rfl⟩;rw[<-a]
 have g:aa 0 ρ O=.ok (dW l) O:=by rw[a];rfl
 have f:aa 4 ρ O=.ok (.int ((lo+k+1:Nat):Int)) O:=by rw[a];rfl
 have d:=HB f (lJ g);unfold uV
 by_cases z:lo+k+1=l.length
 ·rw[zj (by omega)] at d;rw[G9 z];exact Qze d
 ·rw[zf (by omega)] at d;obtain⟨x,y,E,C,B⟩:=G8 (l:=l) (i:=lo+k) (by omega);have q:=qZ f (show mC (.int 1) ρ O=.ok (.int 1) O from rfl);rw[show((lo+k+1:Nat):Int) - 1=((lo+k:Nat):Int) by omega] at q;have c:=Qk (b:=mC (.str [32])) (j:=32) (Hz g q E) rfl;have u:=Qyf (b:=mC (.str [32])) (j:=32) (Hz g f C) rfl;rw[QyY d,B]
  by_cases r:x.1=32
  ·rw[zj r] at c ⊢;rw[Qq c,u,Bool.true_and]
  ·rw[zf r] at c ⊢;rw[Qzd c,Bool.false_and]
theorem Qwb(l:List LT)(E:l.length<=1000)(lo k:Nat)(w:Int)(h:lo+k<l.length)(acc:List Nat)(F:acc.length<=100000)(q c:Option D)(O:ak):∃u r,uW (oE l lo w acc (some (iN (lo+k+1))) q c) O=if w<tw l lo (k+1) then .bk (oE l lo w (acc++(if gd l lo w k=true then[lo+k+1] else[])) (some (iN (lo+k+1))) u r) O else .nx (oE l lo w (acc++(if gd l lo w k=true then[lo+k+1] else[])) (some (iN (lo+k+1))) u r) O:=by
 have C:aF 5 uV (oE l lo w acc (some (iN (lo+k+1))) q c) O=.nx (oE l lo w acc (some (iN (lo+k+1))) (some (.bl (isB l (.int (1+((lo+k:Nat):Int)))))) c) O:=bw (QzL l lo k w h acc q c O);have x:=Qm ((l.drop lo).take (k+1)) (by rw[List.length_take,List.length_drop];omega) O;rw[Qo l lo (k+1) (by omega)] at x
 have B:aF 6 (aH jR (aj (mSl (aa 0) (moS (mG (aa 1))) (moS (aa 4))) aq)) (oE l lo w acc (some (iN (lo+k+1))) (some (.bl (isB l (.int (1+((lo+k:Nat):Int)))))) c) O=.nx (oE l lo w acc (some (iN (lo+k+1))) (some (.bl (isB l (.int (1+((lo+k:Nat):Int)))))) (some (.int (tw l lo (k+1))))) O:=by
  have sl:=yF (m:=aa 0) (a:=mG (aa 1)) (b:=aa 4) (ρ:=oE l lo w acc (some (iN (lo+k+1))) (some (.bl (isB l (.int (1+((lo+k:Nat):Int)))))) c) (O:=O) (l:=l) (i:=lo) (k:=lo+k+1) rfl rfl rfl;rw[show lo+k+1 - lo=k+1 by omega] at sl;exact bw ((bz (ma1 sl)).trans x)
 refine⟨some (.bl (isB l (.int (1+((lo+k:Nat):Int))))),some (.int (tw l lo (k+1))),?_⟩;unfold uW;rw[sq C,sq B]
 have y:∀a O,cz (aa 5) (oE l lo w a (some (iN (lo+k+1))) (some (.bl (isB l (.int (1+((lo+k:Nat):Int)))))) (some (.int (tw l lo (k+1))))) O=.ok (isB l (.int (1+((lo+k:Nat):Int)))) O:=λa O=>Py rfl
 have g:=yH (a:=aa 6) (b:=aa 2) (ρ:=oE l lo w acc (some (iN (lo+k+1))) (some (.bl (isB l (.int (1+((lo+k:Nat):Int)))))) (some (.int (tw l lo (k+1))))) (O:=O) (i:=tw l lo (k+1)) (j:=w) rfl rfl
 have z:bc (eV (cz (aa 5)) (aJ (ao gLe (aa 6) (aa 2)))) (dq 3 (aa 4)) bj (oE l lo w acc (some (iN (lo+k+1))) (some (.bl (isB l (.int (1+((lo+k:Nat):Int)))))) (some (.int (tw l lo (k+1))))) O=.nx (oE l lo w (acc++(if gd l lo w k=true then[lo+k+1] else[])) (some (iN (lo+k+1))) (some (.bl (isB l (.int (1+((lo+k:Nat):Int)))))) (some (.int (tw l lo (k+1))))) O:=by
  have f:=y acc O;unfold gd
  cases hb:isB l (.int (1+((lo+k:Nat):Int))) with
  |false =>
   rw[hb] at f;rw[dh (and_f f),Bool.false_and,if_neg zh,zH];rfl
  |true =>
   rw[hb] at f g
   by_cases hw:tw l lo (k+1)<=w
   ·rw[zj hw] at g;rw[dU ((and_t f).trans g),Bool.true_and,zj hw,if_pos rfl,oR (ds:=acc.map iN) (d:=iN (lo+k+1)) rfl rfl (by rw[zd];omega)];unfold oE;rw[zK];rfl
   ·rw[zf hw] at g;rw[dh ((and_t f).trans g),Bool.true_and,zf hw,if_neg zh,zH];rfl
 rw[sq z];have n:=yG (a:=aa 6) (b:=aa 2) (ρ:=oE l lo w (acc++(if gd l lo w k=true then[lo+k+1] else[])) (some (iN (lo+k+1))) (some (.bl (isB l (.int (1+((lo+k:Nat):Int)))))) (some (.int (tw l lo (k+1))))) (O:=O) (i:=tw l lo (k+1)) (j:=w) rfl rfl
 by_cases hw:w<tw l lo (k+1)
 ·rw[zj hw] at n;rw[if_pos hw,dU n];rfl
 ·rw[zf hw] at n;rw[if_neg hw,dh n];rfl
theorem QtQ(a m:Nat):cH ((a:Nat):Int) (m+1)=iN a::cH ((a+1:Nat):Int) m:=by
 unfold cH;rw[List.range_succ_eq_map,ze,zP,List.cons.injEq];refine⟨?_,jc λi _=>?_⟩
 ·exact congrArg D.int (show(a:Int)+((0:Nat):Int)=(a:Int) by omega)
 ·exact congrArg D.int (show(a:Int)+((i+1:Nat):Int)=((a+1:Nat):Int)+(i:Int) by omega)
theorem Qs(l:List LT)(lo:Nat)(w:Int)(i:l.length<=1000)(O:ak):∀(m k:Nat) (d c b:Option D),lo+k+m=l.length ->
  ∃n g f,bK (mgN 4) uW (cH ((lo+k+1:Nat):Int) m) (oE l lo w ((fes l lo w k).map λj=>lo+j+1) d c b) O=.nx (oE l lo w ((fes l lo w (l.length - lo)).map λj=>lo+j+1) n g f) O
 | 0,k,d,c,b,h=>by
  rw[show l.length - lo=k by omega];exact⟨d,c,b,rfl⟩
 |m+1,k,d,c,b,h=>by
  have x:(fes l lo w k).length<=k:=by
   have:=List.length_filter_le (gd l lo w) (List.range k)
   rw[List.length_range] at this;exact this
  obtain⟨g,f,t⟩:=Qwb l i lo k w (by omega) ((fes l lo w k).map λj=>lo+j+1) (by rw[zd];omega) c b O
  have q:((fes l lo w k).map λj=>lo+j+1)++(if gd l lo w k=true then[lo+k+1] else[])=(fes l lo w (k+1)).map λj=>lo+j+1:=by
   rw[Ha,zK]
   split<;>rfl
  rw[q] at t;rw[QtQ];unfold bK;rw[show mgN 4 (iN (lo+k+1)) (oE l lo w ((fes l lo w k).map λj=>lo+j+1) d c b)=some (oE l lo w ((fes l lo w k).map λj=>lo+j+1) (some (iN (lo+k+1))) c b) from rfl];dsimp only;rw[t]
  by_cases a:w<tw l lo (k+1)
  ·rw[if_pos a];have u:=Hb a (l.length - lo) (by omega);have r:=Hb a (k+1) (by omega);rw[u,r];exact⟨_,_,_,rfl⟩
  ·rw[if_neg a];exact Qs l lo w i O m (k+1) _ g f (by omega)
theorem Qt(l:List LT)(C:l.length<=1000)(lo:Nat)(G:lo<=l.length)(w:Int)(hw:0<=w)(O:ak):lu [dW l,.int (lo:Int),.int w] O=.ok (.lst ((enN l lo w).map iN)) O:=by
 obtain⟨g,f,c,e⟩:=Qs l lo w C O (l.length - lo) 0 none none none (by omega);have B:aF 3 (bI aq) [some (dW l),some (.int (lo:Int)),some (.int w),none,none,none,none] O=.nx (oE l lo w [] none none none) O:=bw rfl
 have r:lX (aj (ao aZ (aa 1) (mC (.int 1))) (aj (ao aZ (aY bT (aj (aa 0) aq)) (mC (.int 1))) aq)) (oE l lo w [] none none none) O=.ok (cH ((lo+0+1:Nat):Int) (l.length - lo)) O:=by
  have a1:=jz (a:=aa 1) (b:=mC (.int 1)) (ρ:=oE l lo w [] none none none) (O:=O) (i:=(lo:Int)) (j:=1) rfl rfl;have a2:=jz (b:=mC (.int 1)) (j:=1) (lJ (m:=aa 0) (ρ:=oE l lo w [] none none none) (O:=O) (l:=l) rfl) rfl;rw[N8 (maS a1 (ma1 a2)) (by omega),show(lo:Int)+1=((lo+0+1:Nat):Int) by omega,show((l.length:Int)+1 - ((lo+0+1:Nat):Int)).toNat=l.length - lo by omega]
 have u:cA (lX (aj (ao aZ (aa 1) (mC (.int 1))) (aj (ao aZ (aY bT (aj (aa 0) aq)) (mC (.int 1))) aq))) (mgN 4) uW (oE l lo w [] none none none) O=.nx (oE l lo w ((fes l lo w (l.length - lo)).map λj=>lo+j+1) g f c) O:=by
  rw[gO,r,gP];exact e
 have F:lu [dW l,.int (lo:Int),.int w] O=bu (xP [some (dW l),some (.int (lo:Int)),some (.int w),none,none,none,none] O):=by
  unfold lu;rw[fQ];rfl
 have z:bc (aJ (ao gEq (aa 3) (bI aq))) (aF 3 (bI (aj (ao aZ (aa 1) (aH iH (aj (mSl (aa 0) (moS (mG (aa 1))) moN) (aj (aa 2) aq)))) aq))) bj (oE l lo w ((fes l lo w (l.length - lo)).map λj=>lo+j+1) g f c) O=.nx (oE l lo w (enN l lo w) g f c) O:=by
  have q:∀h:List Nat,okE (.lst (h.map iN))=true:=λh=>wk (n:=5) (by decide) λd hd=>by
   obtain⟨x,_,rfl⟩:=zx.mp hd;exact⟨rfl,rfl,by simp[toP,PyData.depth,iN]⟩
  unfold enN ends
  cases hf:fes l lo w (l.length - lo) with
  |nil =>
   have sl:=Qi (m:=aa 0) (b:=mG (aa 1)) (ρ:=oE l lo w [] g f c) (O:=O) (l:=l) (k:=lo) rfl rfl;have E:=yI (l.drop lo) (by rw[List.length_drop];omega) w hw O;have a1:=jz (a:=aa 1) (i:=(lo:Int)) rfl ((bz (maS sl (ma1 (a:=aa 2) (x:=.int w) rfl))).trans E);rw[show(lo:Int)+((bZ (l.drop lo) w:Nat):Int)=((rch l lo w:Nat):Int) by unfold rch;omega] at a1;have t:aJ (ao gEq (aa 3) (bI aq)) (oE l lo w [] g f c) O=.ok true O:=rfl;rw[zO,dU t];exact bw (lD (ma1 a1) (show(1:Nat)<=1000000 by decide))
  |cons k h =>
   have t:aJ (ao gEq (aa 3) (bI aq)) (oE l lo w ((k::h).map λj=>lo+j+1) g f c) O=.ok false O:=by
    refine fB (bx (x:=.lst (((k::h).map λj=>lo+j+1).map iN)) (y:=.lst []) rfl rfl ?_);rw[cT,cT,ud,q,show okE (.lst [])=true from rfl,Bool.and_self,if_pos rfl];rfl
   rw[dh t];show Fl.nx _ O=Fl.nx (oE l lo w (((k::h).map λk=>(lo+k+1,tw l lo (k+1))).map λp:Nat×Int=>p.1) g f c) O;rw[zP];rfl
 rw[F];unfold xP;unfold uW uV at u;rw[sq B,sq u,sq z];rfl
theorem m7(p:Key×D)(r:List (Key×D))(k:Key):bQ (p::r) k=if p.1=k then some p.2 else bQ r k:=by
 unfold bQ;rw[List.find?_cons]
 by_cases h:p.1=k
 ·rw[if_pos h,zj h];rfl
 ·rw[if_neg h,zf h]
theorem Qu{k:Key}:∀a:List (Key×D),(a.any λp=>decide (p.1=k))=false->bQ a k=none
 | [],_=>rfl
 |p::r,h=>by
  rw[List.any_cons,Bool.or_eq_false_iff] at h;rw[m7,if_neg (of_decide_eq_false h.1)];exact Qu r h.2
theorem HD{k a:Key}{d:D}:∀b:List (Key×D),(b.any λp=>decide (p.1=k))=true->bQ (b.map λp=>if p.1=k then(p.1,d) else p) a=if a=k then some d else bQ b a
 | [],h=>absurd h zh
 |p::r,h=>by
  rw[ze,m7,m7]
  by_cases h1:p.1=k
  ·rw[if_pos h1]
   by_cases h2:a=k
   ·rw[if_pos h2,if_pos (show p.1=a by rw[h1,h2])]
   ·have h3:¬p.1=a:=λz=>h2 (by rw[<-z,h1])
    rw[if_neg h2,if_neg h3,if_neg h3]
    cases hr:r.any λp=>decide (p.1=k) with
    |true=>rw[HD r hr,if_neg h2]
    |false =>
     rw[show(r.map λp=>if p.1=k then(p.1,d) else p)=r from ?_];exact(jc λq c=>if_neg (of_decide_eq_false (List.any_eq_false.mp hr q c |> λz=>by simpa using z))).trans (List.map_id _)
  ·rw[if_neg h1];rw[List.any_cons,zf h1,Bool.false_or] at h;rw[HD r h]
   by_cases h2:a=k
   ·rw[if_pos h2,if_pos h2,if_neg (show ¬p.1=a from λz=>h1 (by rw[z,h2]))]
   ·rw[if_neg h2,if_neg h2]
theorem Qv{k a:Key}{d:D}:∀b:List (Key×D),bQ (b++[(k,d)]) a=match bQ b a with
  |some x=>some x
  |none=>if a=k then some d else none
 | []=>by
  rw[zD,m7]
  by_cases h:a=k
  ·rw[if_pos h.symm];exact(if_pos h).symm
  ·rw[if_neg (λz=>h z.symm)];exact(if_neg h).symm
 |p::r=>by
  rw[List.cons_append,m7,m7,Qv r]
  by_cases h:p.1=a
  ·rw[if_pos h,if_pos h]
  ·rw[if_neg h,if_neg h]
theorem q9(a:List (Key×D))(k b:Key)(d:D):bQ (gK a k d) b=if b=k then some d else bQ a b:=by
 unfold gK
 cases h:a.any λp=>decide (p.1=k) with
 |true=>rw[if_pos rfl,HD a h]
 |false =>
  rw[if_neg zh,Qv]
  by_cases h1:b=k
  ·subst h1;rw[Qu a h]
  ·cases bQ a b with
   |none=>rfl
   |some x=>exact(if_neg h1).symm
theorem Qw(a:List (Key×D))(k:Key)(d:D):(gK a k d).length<=a.length+1:=by
 unfold gK
 split
 ·rw[zd];exact Nat.le_succ _
 ·rw[zn];exact zb _
def nK(n:Nat):Key:=.inl (n:Int)
theorem Qx{a b:Nat}(h:nK a=nK b):a=b:=Int.ofNat.inj (Sum.inl.inj h)
theorem HF{my mo:L2.M D}{ρ:az}{O:ak}{y d:D}{k:Key}{n:Nat}{a:List (Key×D)}(c:mo ρ O=.ok (.ob n) O)(b:my ρ O=.ok y O)(f:keyOf y=some k)(g:O[n]?=some (.dk a))(hv:bQ a k=some d):iY mo my ρ O=.ok d O:=by
 unfold iY;rw[c,aN];dsimp only;rw[b]
 show(match keyOf y,O[n]? with
  |some k,some (.dk a)=>(match bQ a k with
   |some d=>Res.ok d O
   |none=>.no)
  | _,_=>.no)=_
 rw[g,f];dsimp only;rw[hv]
theorem Qy{my mo c:L2.M D}{ρ:az}{O a:ak}{y d:D}{k:Key}{n:Nat}{b:List (Key×D)}(hv:c ρ O=.ok d a)(g:mo ρ a=.ok (.ob n) a)(f:my ρ a=.ok y a)(i:keyOf y=some k)(j:a[n]?=some (.dk b))(h:b.length<1000000):mH mo my c ρ O=.nx ρ (a.set n (.dk (gK b k d))):=by
 unfold mH;rw[hv];dsimp only;rw[g];dsimp only;rw[f];dsimp only;rw[j,i];dsimp only;rw[if_pos h]
theorem QvC{my mo:L2.M D}{ρ:az}{O:ak}{a n:Nat}{b:List (Key×D)}(c:my ρ O=.ok (.int (a:Int)) O)(d:mo ρ O=.ok (.ob n) O)(f:O[n]?=some (.dk b)):aJ (n8 true my mo) ρ O=.ok (!(bQ b (nK a)).isSome) O:=by
 refine fB ?_;unfold n8;rw[c,aN,d]
 show(match keyOf (.int (a:Int)),O[n]? with
  |some k,some (.dk b)=>Res.ok (D.bl (true != (bQ b k).isSome)) O
  | _,_=>.no)=_
 rw[f];show Res.ok (D.bl (true != (bQ b (nK a)).isSome)) O=_;rw[Bool.true_bne]
theorem Qvo(l:List LT)(w:Int)(m:l.length<=200)(hw:2<=w)(a:w<=40):∃ps f,Wk l w ps 0 f/\Pri l.length ndN (mvN l w) (eO l) 0 ps/\∀b:List LT,sg b=sg l->∀O:ak,∃h,qz [.lst (b.map dL),.int w] O=.ok (.lst ((stE (f.map (·.1))).map dS)) h/\∀(j:Nat) (x:Ob),O[j]?=some x->h[j]?=some x:=by
 obtain⟨_,r,J,g,_,_,d,_,y⟩:=Pq (yx l w m hw a 0) (neN l w) (by omega) (O:=[.ins "Even" (fsE l w)]) rfl;obtain⟨f,I,n⟩:=PP m hw a d g 0 (Nat.zero_le _) y;refine⟨r,f,n,d,λb i O=>?_⟩;have hl':=jy i;obtain⟨h,ps,c,E,C,keep,q,_,z⟩:=Pq (yx b w (by omega) hw a O.length) (neN b w) (by omega) (O:=O++[.ins "Even" (fsE b w)]) Hg;rw[Qyc i,Qwr i] at q z;rw[hl'] at q;have H:=PK (yx l w m hw a 0).fw d q g E 0 (0,0) (Nat.zero_le _) (zk.mpr rfl) y z;subst H;rw[I] at C;have hlen:=n.len hw;have u:=n.le hw;refine⟨h,Qsw b w (c:=c) (es:=f.map (·.1)) (by rw[zd];omega) (λe G=>?_) (by rw[zP];exact C),λj x B=>keep j x (by rw[zA (zl.mp B).1];exact B)⟩
 obtain⟨p,F,rfl⟩:=zx.mp G
 have:=u p F
 omega
section
variable {l:List LT}{w:Int}{ps:Tb}
def cO(l:List LT)(w:Int)(ps:Tb)(p:Nat×Int):Int:=cst l w p+px ps p.1
theorem Qw1(f:l.length<=200)(hw:2<=w)(b:w<=40)(h:Pri l.length ndN (mvN l w) (eO l) 0 ps){a:Nat}(g:a<l.length):∃p∈ends l a w,cO l w ps p=px ps a:=by
 obtain⟨m,d,i⟩:=Qx2 (Ho f hw b h g);rw[yz (by omega)] at d;obtain⟨p,c,rfl⟩:=zx.mp (List.mem_reverse.mp d);have j:=(gQ g hw p c).2.1
 have:=Hl (m:=mE l w p) (uQ f hw b h j)
 rw[show mE l w p=(⟨cst l w p,strN p.1,((p.1:Int),0)⟩:M3) from rfl,i] at this;exact⟨p,c,(zB this).symm⟩
def Bst(l:List LT)(w:Int)(ps:Tb)(X:List (Nat×Int))(q:Nat×Int):Prop:=q∈X/\(∀p∈X,cO l w ps q<=cO l w ps p)/\∀p∈X,q.1<p.1->cO l w ps q<cO l w ps p
def vE(l:List LT)(w:Int)(n:Nat)(d c b a:Option D):az:=[some (dW l),some (.int w),some (.int (l.length:Int)),some (.ob n),some (.ob (n+1)),d,c,b,a]
def uX:MS:=(aD (aF 8 (iY (aa 3) (aa 7)))
  (aD (bc (aJ (ao gLt (aa 7) (aa 2))) (aF 8 (ao aZ (aa 8) (ao eX (ao dB (aa 1) (aH jR (aj (mSl (aa 0) (moS (aa 6)) (moS (aa 7))) aq))) (mC (.int 2))))) bj)
  (bc (dJ (aJ (n8 true (aa 6) (aa 3))) (aJ (ao gLe (aa 8) (iY (aa 3) (aa 6))))) (aD (mH (aa 3) (aa 6) (aa 8))
  (mH (aa 4) (aa 6) (aa 7))) bj)))
theorem yJ{O:ak}{a b:Ob}:(O++[a,b])[O.length]?=some a:=by
 rw[zC (zb _),Nat.sub_self];rfl
theorem QAg{O:ak}{a b:Ob}:(O++[a,b])[O.length+1]?=some b:=by
 rw[zC (by omega),show O.length+1 - O.length=1 by omega];rfl
theorem QzN{O:ak}{a b c:Ob}:(O++[a,b]).set O.length c=O++[c,b]:=by
 rw[List.set_append_right _ _ (zb _),Nat.sub_self];rfl
theorem Qzr{O:ak}{a b c:Ob}:(O++[a,b]).set (O.length+1) c=O++[a,c]:=by
 rw[List.set_append_right _ _ (by omega),show O.length+1 - O.length=1 by omega];rfl
theorem Qz{a b:L2.M Bool}{ρ:az}{O:ak}(h1:a ρ O=.ok true O):dJ a b ρ O=.ok true O:=by
 rw[tZ,h1,aN,if_pos rfl]
theorem QB{b a:L2.M Bool}{ρ:az}{O:ak}(h1:b ρ O=.ok false O):dJ b a ρ O=a ρ O:=by
 rw[tZ,h1,aN,if_neg zh]
def lK(v:Int):Option Int->Bool
 |none=>true
 |some u=>decide (v<=u)
theorem Qwf(hl:l.length<=200)(hw:2<=w)(hw':w<=40){a:Nat}(Y:a<l.length){p:Nat×Int}(X:p∈ends l a w){c o:List (Key×D)}(hc:c.length<=100000)(ho:o.length<=100000)(hv:bQ c (nK p.1)=some (.int (px ps p.1))){q:Option Int}(J:bQ c (nK a)=q.map D.int)(O:ak)(r I:Option D):
  ∃E,uX (vE l w O.length r (some (iN a)) (some (iN p.1)) I) (O++[.dk c,.dk o])=.nx (vE l w O.length r (some (iN a)) (some (iN p.1)) E) (O++[.dk (if lK (cO l w ps p) q=true then gK c (nK a) (.int (cO l w ps p)) else c),.dk (if lK (cO l w ps p) q=true then gK o (nK a) (iN p.1) else o)]):=by
 obtain⟨h1,h2,h3,h4,Z⟩:=gQ Y hw p X;refine⟨some (.int (cO l w ps p)),?_⟩;have T:aF 8 (iY (aa 3) (aa 7)) (vE l w O.length r (some (iN a)) (some (iN p.1)) I) (O++[.dk c,.dk o])=.nx (vE l w O.length r (some (iN a)) (some (iN p.1)) (some (.int (px ps p.1)))) (O++[.dk c,.dk o]):=bw (HF (n:=O.length) (y:=iN p.1) (k:=nK p.1) rfl rfl rfl yJ hv)
 have R:bc (aJ (ao gLt (aa 7) (aa 2))) (aF 8 (ao aZ (aa 8) (ao eX (ao dB (aa 1) (aH jR (aj (mSl (aa 0) (moS (aa 6)) (moS (aa 7))) aq))) (mC (.int 2))))) bj (vE l w O.length r (some (iN a)) (some (iN p.1)) (some (.int (px ps p.1)))) (O++[.dk c,.dk o])=.nx (vE l w O.length r (some (iN a)) (some (iN p.1)) (some (.int (cO l w ps p)))) (O++[.dk c,.dk o]):=by
  have t:=qR (a:=aa 7) (b:=aa 2) (ρ:=vE l w O.length r (some (iN a)) (some (iN p.1)) (some (.int (px ps p.1)))) (O:=O++[.dk c,.dk o]) (i:=(p.1:Int)) (j:=(l.length:Int)) rfl rfl
  by_cases h:p.1=l.length
  ·rw[zf (by omega)] at t;rw[dh t,show cO l w ps p=px ps p.1 by unfold cO cst;rw[if_pos h];omega];rfl
  ·rw[zj (by omega)] at t;have L:=Qm ((l.drop a).take (p.1 - a)) (by rw[List.length_take,List.length_drop];omega) (O++[.dk c,.dk o]);rw[Qo l a (p.1 - a) (by omega),<-Z] at L;have sl:=yF (m:=aa 0) (a:=aa 6) (b:=aa 7) (ρ:=vE l w O.length r (some (iN a)) (some (iN p.1)) (some (.int (px ps p.1)))) (O:=O++[.dk c,.dk o]) (l:=l) (i:=a) (k:=p.1) rfl rfl rfl;have W:=qZ (a:=aa 1) (i:=w) rfl ((bz (ma1 sl)).trans L);have U:=bx (g:=eX) (b:=mC (.int 2)) (y:=.int 2) W rfl (Pz (by omega) (by omega));have ad:=jz (a:=aa 8) (i:=px ps p.1) rfl U;rw[dU t,show cO l w ps p=px ps p.1+(w - p.2) * (w - p.2) by unfold cO cst;rw[if_neg h];omega]
   exact bw ad
 unfold uX;rw[sq T,sq R];obtain⟨ρ,f⟩:∃ρ,ρ=vE l w O.length r (some (iN a)) (some (iN p.1)) (some (.int (cO l w ps p))):=⟨_,rfl⟩;rw[<-f]
 have B:∀d,aa 3 ρ d=.ok (.ob O.length) d:=λd=>by rw[f];rfl
 have Q:∀d,aa 4 ρ d=.ok (.ob (O.length+1)) d:=λd=>by rw[f];rfl
 have x:∀d,aa 6 ρ d=.ok (.int (a:Int)) d:=λd=>by rw[f];rfl
 have P:∀d,aa 7 ρ d=.ok (iN p.1) d:=λd=>by rw[f];rfl
 have F:∀d,aa 8 ρ d=.ok (.int (cO l w ps p)) d:=λd=>by rw[f];rfl
 have C:=QvC (x (O++[.dk c,.dk o])) (B (O++[.dk c,.dk o])) yJ;rw[J] at C
 have z:dJ (aJ (n8 true (aa 6) (aa 3))) (aJ (ao gLe (aa 8) (iY (aa 3) (aa 6)))) ρ (O++[.dk c,.dk o])=.ok (lK (cO l w ps p) q) (O++[.dk c,.dk o]):=by
  cases q with
  |none=>exact Qz C
  |some u =>
   rw[QB C];exact yH (F _) (HF (B _) (x _) (k:=nK a) rfl yJ J)
 cases hu:lK (cO l w ps p) q with
 |true =>
  rw[hu] at z;have H:=Qy (mo:=aa 3) (my:=aa 6) (k:=nK a) (F (O++[.dk c,.dk o])) (B _) (x _) rfl yJ (by omega);rw[QzN] at H;have G:=Qy (mo:=aa 4) (my:=aa 6) (k:=nK a) (P (O++[.dk (gK c (nK a) (.int (cO l w ps p))),.dk o])) (Q _) (x _) rfl QAg (by omega);rw[Qzr] at G;rw[dU z,sq H,G,if_pos rfl,if_pos rfl]
 |false =>
  rw[hu] at z;rw[dh z,if_neg zh,if_neg zh];rfl
def SX(l:List LT)(w:Int)(ps:Tb)(a:Nat)(X:List (Nat×Int))(c o:List (Key×D)):Prop:=(X=[]/\bQ c (nK a)=none)\/∃q,Bst l w ps X q/\bQ c (nK a)=some (.int (cO l w ps q))/\bQ o (nK a)=some (iN q.1)
theorem QC(hl:l.length<=200)(hw:2<=w)(I:w<=40){a:Nat}(U:a<l.length)(O:ak)(y:Option D):∀(Y X:List (Nat×Int)) (c o:List (Key×D)) (H j:Option D),X++Y=ends l a w->c.length+Y.length<=100000->o.length+Y.length<=100000->SX l w ps a X c o->(∀p∈Y,bQ c (nK p.1)=some (.int (px ps p.1))) ->
  ∃G C n m,bK (mgN 7) uX (Y.map λp=>iN p.1) (vE l w O.length y (some (iN a)) H j) (O++[.dk c,.dk o])=.nx (vE l w O.length y (some (iN a)) n m) (O++[.dk G,.dk C])/\SX l w ps a (X++Y) G C/\(∀k,k≠a->bQ G (nK k)=bQ c (nK k)/\bQ C (nK k)=bQ o (nK k))/\G.length<=c.length+Y.length/\C.length<=o.length+Y.length
 | [],X,c,o,H,j,_,_,_,hS,_=>⟨c,o,H,j,rfl,by rw[zH];exact hS,λ_ _=>⟨rfl,rfl⟩,zb _,zb _⟩
 |p::Y,X,c,o,H,j,hXY,hc,ho,hS,hv=>by
  rw[zw] at hc ho
  have J:p∈ends l a w:=by rw[<-hXY];exact zL _ zp
  have hpa:=gQ U hw p J
  have Z:∀x∈X,x.1<p.1:=λx d=>by
   have:=Hn l a w
   rw[<-hXY] at this;exact(List.pairwise_append.mp this).2.2 x d p zp
  obtain⟨q,E⟩:∃q:Option Int,bQ c (nK a)=q.map D.int:=by
   rcases hS with⟨_,h⟩ | ⟨q,_,h,_⟩
   ·exact⟨none,h⟩
   ·exact⟨some (cO l w ps q),h⟩
  obtain⟨m,e⟩:=Qwf (ps:=ps) hl hw I U J (c:=c) (o:=o) (by omega) (by omega) (hv p zp) E O y j;obtain⟨F,g⟩:∃F,F=(if lK (cO l w ps p) q=true then gK c (nK a) (.int (cO l w ps p)) else c):=⟨_,rfl⟩;obtain⟨B,f⟩:∃B,B=(if lK (cO l w ps p) q=true then gK o (nK a) (iN p.1) else o):=⟨_,rfl⟩;rw[<-g,<-f] at e
  have P:∀k,k≠a->¬nK k=nK a:=λk i z=>i (Qx z)
  have fr:∀k,k≠a->bQ F (nK k)=bQ c (nK k)/\bQ B (nK k)=bQ o (nK k):=λk i=>by
   rw[g,f]
   split
   ·rw[q9,q9,if_neg (P k i),if_neg (P k i)];exact⟨rfl,rfl⟩
   ·exact⟨rfl,rfl⟩
  have l1:F.length<=c.length+1:=by
   rw[g]
   split
   ·exact Qw _ _ _
   ·omega
  have l2:B.length<=o.length+1:=by
   rw[f]
   split
   ·exact Qw _ _ _
   ·omega
  have S1:SX l w ps a (X++[p]) F B:=by
   right
   rcases hS with⟨rfl,h⟩ | ⟨b,⟨b1,b2,b3⟩,h,h'⟩
   ·rw[h] at E
    have:q=none:=by cases q with
     |none=>rfl
     |some u=>exact nomatch E
    subst this;rw[show lK (cO l w ps p) none=true from rfl,if_pos rfl] at g f;refine⟨p,⟨zk.mpr rfl,λx d=>?_,λx d z=>?_⟩,by rw[g,q9,if_pos rfl],by rw[f,q9,if_pos rfl]⟩
    ·rw[zk.mp d];exact Int.le_refl _
    ·rw[zk.mp d] at z;exact absurd z (zQ _)
   ·rw[h] at E
    have:q=some (cO l w ps b):=by
     cases q with
     |none=>exact nomatch E
     |some u=>rw[D.int.inj (zB E)]
    subst this
    by_cases r:cO l w ps p<=cO l w ps b
    ·rw[show lK (cO l w ps p) (some (cO l w ps b))=true from zj r,if_pos rfl] at g f;refine⟨p,⟨zL _ (zk.mpr rfl),λx d=>?_,λx d z=>?_⟩,by rw[g,q9,if_pos rfl],by rw[f,q9,if_pos rfl]⟩
     ·rcases zz.mp d with d | d
      ·exact Int.le_trans r (b2 x d)
      ·rw[zk.mp d];exact Int.le_refl _
     ·rcases zz.mp d with d | d
      ·have:=Z x d
       omega
      ·rw[zk.mp d] at z;omega
    ·rw[show lK (cO l w ps p) (some (cO l w ps b))=false from zf r,if_neg zh] at g f;subst g;subst f;refine⟨b,⟨jp _ b1,λx d=>?_,λx d z=>?_⟩,h,h'⟩
     ·rcases zz.mp d with d | d
      ·exact b2 x d
      ·rw[zk.mp d];omega
     ·rcases zz.mp d with d | d
      ·exact b3 x d z
      ·rw[zk.mp d];omega
  obtain⟨G,C,n,R,e2,S2,Q,l3,l4⟩:=QC hl hw I U O y Y (X++[p]) F B (some (iN p.1)) m (by rw[zI];exact hXY) (by omega) (by omega) S1 (λT L=>by
   have W:T∈ends l a w:=by rw[<-hXY];exact zL _ (zt _ L)
   have:=(gQ U hw T W).1
   rw[(fr T.1 (by omega)).1]
   exact hv T (zt _ L))
  refine⟨G,C,n,R,?_,by rw[zI] at S2;exact S2,λk i=>⟨(Q k i).1.trans (fr k i).1,(Q k i).2.trans (fr k i).2⟩,by rw[zw];omega,by rw[zw];omega⟩;rw[ze];unfold bK;rw[show mgN 7 (iN p.1) (vE l w O.length y (some (iN a)) H j)=some (vE l w O.length y (some (iN a)) (some (iN p.1)) j) from rfl];dsimp only;rw[e];exact e2
end
section
variable {l:List LT}{w:Int}{ps:Tb}
def uY:MS:=(aD (aF 6 (ao dB (ao dB (aa 2) (mC (.int 1))) (aa 5)))
  (cA (bY (aH lu (aj (aa 0) (aj (aa 6) (aj (aa 1) aq))))) (mgN 7) uX))
def Gon(l:List LT)(w:Int)(ps:Tb)(o:List (Key×D))(a:Nat):Prop:=∃p∈ends l a w,bQ o (nK a)=some (iN p.1)/\cO l w ps p=px ps a/\∀b∈ends l a w,p.1<b.1->px ps a<cO l w ps b
structure EI(l:List LT)(w:Int)(ps:Tb)(i:Nat)(c o:List (Key×D)):Prop where
 hi:∀a,l.length - i<=a->a<=l.length->bQ c (nK a)=some (.int (px ps a))
 lo:∀a,a<l.length - i->bQ c (nK a)=none
 on:∀a,l.length - i<=a->a<l.length->Gon l w ps o a
 sc:c.length<=1+i * 201
 so:o.length<=i * 201
theorem QvX(H:l.length<=200)(hw:2<=w)(g:w<=40)(U:Pri l.length ndN (mvN l w) (eO l) 0 ps){i:Nat}(hi:i<l.length){c o:List (Key×D)}(E:EI l w ps i c o)(O:ak)(C n h:Option D):∃B u J f d,uY (vE l w O.length (some (iN i)) C n h) (O++[.dk c,.dk o])=.nx (vE l w O.length (some (iN i)) J f d) (O++[.dk B,.dk u])/\EI l w ps (i+1) B u:=by
 obtain⟨a,ha0⟩:∃a,a=l.length - 1 - i:=⟨_,rfl⟩
 have y:a<l.length:=by omega
 have en:=Hc l a w;have sc:=E.sc;have so:=E.so
 have X:aF 6 (ao dB (ao dB (aa 2) (mC (.int 1))) (aa 5)) (vE l w O.length (some (iN i)) C n h) (O++[.dk c,.dk o])=.nx (vE l w O.length (some (iN i)) (some (iN a)) n h) (O++[.dk c,.dk o]):=by
  have m:=qZ (qZ (a:=aa 2) (b:=mC (.int 1)) (ρ:=vE l w O.length (some (iN i)) C n h) (O:=O++[.dk c,.dk o]) (i:=(l.length:Int)) (j:=1) rfl rfl) (show aa 5 _ _=.ok (.int (i:Int)) _ from rfl);rw[show(l.length:Int) - 1 - (i:Int)=(a:Int) by omega] at m;exact bw m
 obtain⟨B,u,f,d,e,S,fr,l1,l2⟩:=QC (ps:=ps) H hw g y O (some (iN i)) (ends l a w) [] c o n h rfl (by omega) (by omega) (.inl ⟨rfl,E.lo a (by omega)⟩) (λp G=>by
  obtain⟨h1,h2,_⟩:=gQ y hw p G
  exact E.hi p.1 (by omega) h2)
 rw[zD] at S
 have it:bY (aH lu (aj (aa 0) (aj (aa 6) (aj (aa 1) aq)))) (vE l w O.length (some (iN i)) (some (iN a)) n h) (O++[.dk c,.dk o])=.ok ((ends l a w).map λp=>iN p.1) (O++[.dk c,.dk o]):=by
  have I:=Qt l (by omega) a (by omega) w (by omega) (O++[.dk c,.dk o]);unfold enN at I;rw[zP] at I;exact fW ((bz (maS (x:=dW l) rfl (maS (x:=.int (a:Int)) rfl (ma1 (x:=.int w) rfl)))).trans I)
 have Q:=Hm l a w
 rcases S with⟨z,_⟩ | ⟨q,⟨W,b2,b3⟩,h1,h2⟩
 ·exact absurd z Q
 have F:cO l w ps q=px ps a:=by
  obtain⟨Y,L,e0⟩:=Qw1 H hw g U y;have T:=b2 Y L;have R:px ps a<=cO l w ps q:=QzA H hw g U y W;omega
 refine⟨B,u,some (iN a),f,d,?_,⟨λb h3 h4=>?_,λb h3=>?_,λb h3 h4=>?_,by omega,by omega⟩⟩
 ·unfold uY;rw[sq X,gO,it,gP];exact e
 ·by_cases r:b=a
  ·rw[r,h1,F]
  ·rw[(fr b r).1];exact E.hi b (by omega) h4
 ·rw[(fr b (by omega)).1];exact E.lo b (by omega)
 ·by_cases r:b=a
  ·rw[r];exact⟨q,W,h2,F,λZ P z=>by rw[<-F];exact b3 Z P z⟩
  ·obtain⟨p,G,T,R,k3⟩:=E.on b (by omega) h4;exact⟨p,G,by rw[(fr b r).2];exact T,R,k3⟩
theorem Qww{m:L2.M (List D)}{ρ:az}{O a:ak}{j:Int}(e:m ρ O=.ok [.int j] a)(h:j<=1000000000/\-1000000000<=j):gG m ρ O=.ok (cH 0 j.toNat) a:=by
 unfold gG;rw[e];show(if _ then _ else _)=_;rw[if_pos h]
theorem Quk(H:l.length<=200)(hw:2<=w)(q:w<=40)(I:Pri l.length ndN (mvN l w) (eO l) 0 ps)(O:ak):∃c o,qM [dW l,.int w] O=.ok (.ob (O.length+1)) (O++[.dk c,.dk o])/\∀a,a<l.length->Gon l w ps o a:=by
 have P:aF 2 (aY bT (aj (aa 0) aq)) [some (dW l),some (.int w),none,none,none,none,none,none,none] O=.nx [some (dW l),some (.int w),some (.int (l.length:Int)),none,none,none,none,none,none] O:=bw (lJ rfl);have L:aF 3 (vV 2 0) [some (dW l),some (.int w),some (.int (l.length:Int)),none,none,none,none,none,none] O=.nx [some (dW l),some (.int w),some (.int (l.length:Int)),some (.ob O.length),none,none,none,none,none] (O++[.dk [(nK l.length,.int 0)]]):=yw rfl
 have J:aF 4 n6 [some (dW l),some (.int w),some (.int (l.length:Int)),some (.ob O.length),none,none,none,none,none] (O++[.dk [(nK l.length,.int 0)]])=.nx (vE l w O.length none none none none) (O++[.dk [(nK l.length,.int 0)],.dk []]):=by
  have h:n6 [some (dW l),some (.int w),some (.int (l.length:Int)),some (.ob O.length),none,none,none,none,none] (O++[.dk [(nK l.length,.int 0)]])=.ok (.ob (O.length+1)) (O++[.dk [(nK l.length,.int 0)],.dk []]):=by
   unfold n6;rw[zn,zI];rfl
  exact yw h
 obtain⟨X,u,e,c,o,r,n,m,f,rfl,rfl,E⟩:=qi (g:=mgN 5) (b:=uY)
  (λi ρ u=>∃c o r n m f,ρ=vE l w O.length r n m f/\u=O++[.dk c,.dk o]/\EI l w ps i c o) (cH 0 l.length) 0 (vE l w O.length none none none none) (O++[.dk [(nK l.length,.int 0)],.dk []]) ⟨_,_,none,none,none,none,rfl,rfl,⟨λa h1 h2=>by
    have:a=l.length:=by omega
    rw[this,m7,if_pos rfl,QxW H hw q I],λa h1=>by
    rw[m7,if_neg (λz=>by have:=Qx z;omega)]
    rfl,λa h1 h2=>absurd h1 (by omega),zb _,zb _⟩⟩ (by
   rintro i d ρ u hi ⟨c,o,r,n,m,f,rfl,rfl,E⟩;obtain⟨F,rfl⟩:=QAh hi;rw[zY] at E ⊢;obtain⟨U,Q,C,B,y,h,W⟩:=QvX H hw q I F E O n m f
   exact⟨_,rfl,_,_,.inl h,U,Q,_,C,B,y,rfl,rfl,W⟩)
 rw[qj,zY] at E;refine⟨c,o,?_,λa R=>E.on a (by omega) R⟩
 have G:cA (gG (aj (aa 2) aq)) (mgN 5) uY (vE l w O.length none none none none) (O++[.dk [(nK l.length,.int 0)],.dk []])=.nx (vE l w O.length r n m f) (O++[.dk c,.dk o]):=by
  rw[gO,Qww (j:=(l.length:Int)) (ma1 (x:=.int (l.length:Int)) rfl) (by omega),gP,Int.toNat_natCast,e]
 have T:qM [dW l,.int w] O=bu (xQ [some (dW l),some (.int w),none,none,none,none,none,none,none] O):=by
  unfold qM;rw[fQ];rfl
 rw[T];unfold xQ;unfold uY uX at G;rw[sq P,sq L,sq J,sq G];rfl
end
section
variable {l:List LT}{w:Int}
def S6:MS:=(bc (aJ (ao gEq (aa 2) (mC (.str [99,101,108,108,115])))) (aF 6 (ao aZ (aa 5) (aH iH (aj (mSl (aa 0) (moS (aa 5)) moN) (aj (aa 1) aq))))) (bc (aJ (ao gEq (aa 2) (mC (.str [119,111,114,100,115])))) (aF 6 (aY pZ (aj (aH lu (aj (aa 0) (aj (aa 5) (aj (aa 1) aq)))) aq))) (aF 6 (iY (aa 3) (aa 5)))))
def yK:MS:=(aD S6 (aD (dq 4 (cG (aj (aa 5) (aj (aa 6) aq)))) (aF 5 (aa 6))))
def tE(l:List LT)(w:Int)(y:List Nat)(k:Nat)(acc:List (Nat×Nat))(lo:Nat)(a:Option D):az:=[some (dW l),some (.int w),some (.str y),some (.ob k),some (.lst (acc.map dS)),some (.int (lo:Int)),a]
def Cs(l:List LT)(st:Nat->Nat->Prop):Nat->List Nat->Prop
 |lo,[]=>lo=l.length
 |lo,e::es=>lo<l.length/\st lo e/\Cs l st e es
theorem QD{y:List Nat}{k:Nat}{st:Nat->Nat->Prop}(O:ak)(j:∀lo e acc c,lo<l.length->st lo e->S6 (tE l w y k acc lo c) O=.nx (tE l w y k acc lo (some (iN e))) O):∀(es:List Nat) (lo f:Nat) (acc:List (Nat×Nat)) (c:Option D),Cs l st lo es->es.length<f->acc.length+es.length<=100000 ->
  ∃d,dw (aJ (ao gLt (aa 5) (aY bT (aj (aa 0) aq)))) yK f (tE l w y k acc lo c) O=.nx (tE l w y k (acc++pr lo es) l.length d) O
 | [],lo,f,acc,c,h,hf,_=>by
  obtain⟨f,rfl⟩:∃g,f=g+1:=⟨f - 1,by omega⟩;have h':lo=l.length:=h;have t:=qR (a:=aa 5) (ρ:=tE l w y k acc lo c) (O:=O) (i:=(lo:Int)) rfl (lJ (m:=aa 0) (l:=l) rfl);rw[zf (by omega)] at t;refine⟨c,?_⟩;rw[m6 t,show pr lo []=[] from rfl,zH,h']
 |e::es,lo,f,acc,c,⟨h1,h2,h3⟩,hf,ha=>by
  obtain⟨f,rfl⟩:∃g,f=g+1:=⟨f - 1,by omega⟩;rw[zw] at hf ha;have t:=qR (a:=aa 5) (ρ:=tE l w y k acc lo c) (O:=O) (i:=(lo:Int)) rfl (lJ (m:=aa 0) (l:=l) rfl);rw[zj (by omega)] at t
  have b:yK (tE l w y k acc lo c) O=.nx (tE l w y k (acc++[(lo,e)]) e (some (iN e))) O:=by
   unfold yK;rw[sq (j lo e acc c h1 h2),sq (oR (ds:=acc.map dS) (jx (xs:=[.int (lo:Int),.int (e:Int)]) (maS rfl (ma1 rfl)) (show 2<=1000000 by decide)) rfl (by rw[zd];omega))];unfold tE;rw[zK];rfl
  obtain⟨d,q⟩:=QD O j es e f (acc++[(lo,e)]) (some (iN e)) h3 (by omega) (by rw[zn];show acc.length+1+_<=_;omega);refine⟨d,?_⟩;rw[m5 t b,q,zI];rfl
theorem Qrt(g:l.length<=200)(hw:2<=w)(k:Nat)(O:ak)(lo e:Nat)(acc:List (Nat×Nat))(c:Option D)(h:lo<l.length)(d:e=nxt false l lo w):S6 (tE l w lH k acc lo c) O=.nx (tE l w lH k acc lo (some (iN e))) O:=by
 have f:=yI (l.drop lo) (by rw[List.length_drop];omega) w (by omega) O;have sl:=Qi (m:=aa 0) (b:=aa 5) (ρ:=tE l w lH k acc lo c) (O:=O) (l:=l) (k:=lo) rfl rfl;have a1:=jz (a:=aa 5) (i:=(lo:Int)) rfl ((bz (maS sl (ma1 (a:=aa 1) (x:=.int w) rfl))).trans f);rw[show(lo:Int)+((bZ (l.drop lo) w:Nat):Int)=(e:Int) by rw[d];show _=((rch l lo w:Nat):Int);unfold rch;omega] at a1;unfold S6;rw[dU (show aJ (ao gEq (aa 2) (mC (.str [99,101,108,108,115]))) (tE l w lH k acc lo c) O=.ok true O from rfl)];exact bw a1
theorem Qra(z:l.length<=200)(hw:2<=w)(k:Nat)(O:ak)(lo e:Nat)(acc:List (Nat×Nat))(c:Option D)(h:lo<l.length)(j:e=nxt true l lo w):S6 (tE l w jV k acc lo c) O=.nx (tE l w jV k acc lo (some (iN e))) O:=by
 have y:=Qt l (by omega) lo (by omega) w (by omega) O
 have m:pZ [.lst ((enN l lo w).map iN)]=some (iN e):=by
  obtain⟨p,X,f,d⟩:=Hw l lo w;have lt:=Hn l lo w;have hi:eY ((enN l lo w).map iN)=some ((enN l lo w).map λn:Nat=>(n:Int)):=G5 (λn:Nat=>(n:Int)) (enN l lo w)
  have q:iy ((enN l lo w).map λn:Nat=>(n:Int))=some (e:Int):=by
   refine Bv (zx.mpr ⟨e,?_,rfl⟩) λa u=>?_
   ·unfold enN;rw[f,j,d];exact zx.mpr ⟨p,zL _ (zk.mpr rfl),rfl⟩
   ·obtain⟨x,i,rfl⟩:=zx.mp u;unfold enN at i;obtain⟨r,b,rfl⟩:=zx.mp i;rw[j,d];rw[f] at b lt
    rcases zz.mp b with b | b
    ·have:=(List.pairwise_append.mp lt).2.2 r b p (zk.mpr rfl)
     omega
    ·rw[zk.mp b];exact Int.le_refl _
  show(match eY ((enN l lo w).map iN) with
   |some ns=>(iy ns).map D.int
   |none=>none)=_
  rw[hi];dsimp only;rw[q];rfl
 have a1:=lE (g:=pZ) (ma1 ((bz (maS (a:=aa 0) (ρ:=tE l w jV k acc lo c) (x:=dW l) rfl (maS (a:=aa 5) (x:=.int (lo:Int)) rfl (ma1 (a:=aa 1) (x:=.int w) rfl)))).trans y)) m;unfold S6;rw[dh (show aJ (ao gEq (aa 2) (mC (.str [99,101,108,108,115]))) (tE l w jV k acc lo c) O=.ok false O from rfl),dU (show aJ (ao gEq (aa 2) (mC (.str [119,111,114,100,115]))) (tE l w jV k acc lo c) O=.ok true O from rfl)];exact bw a1
theorem QsR(k:Nat)(O:ak){o:List (Key×D)}(c:O[k]?=some (.dk o))(lo e:Nat)(acc:List (Nat×Nat))(a:Option D)(h:lo<l.length)(b:bQ o (nK lo)=some (iN e)):S6 (tE l w jW k acc lo a) O=.nx (tE l w jW k acc lo (some (iN e))) O:=by
 unfold S6;rw[dh (show aJ (ao gEq (aa 2) (mC (.str [99,101,108,108,115]))) (tE l w jW k acc lo a) O=.ok false O from rfl),dh (show aJ (ao gEq (aa 2) (mC (.str [119,111,114,100,115]))) (tE l w jW k acc lo a) O=.ok false O from rfl)];exact bw (HF (n:=k) (y:=iN lo) (k:=nK lo) rfl rfl rfl c b)
theorem QF{b:Bool}:∀(es:List Nat) (lo:Nat),Nx b l w lo es->Cs l (λa e=>e=nxt b l a w) lo es
 | [],_,h=>h
 |e::es,lo,⟨h1,h2,h3⟩=>⟨h1,h2,QF es e h3⟩
theorem QG{ps:Tb}{o:List (Key×D)}(c:∀a,a<l.length->Gon l w ps o a):∀(b:List (Nat×Int)) (lo:Nat),Wk l w ps lo b->Cs l (λa e=>bQ o (nK a)=some (iN e)) lo (b.map (·.1))
 | [],_,h=>h
 |q::b,lo,⟨h1,h2,h3,h4,h5⟩=>by
  refine⟨h1,?_,QG c b q.1 h5⟩;obtain⟨p,i,g,f,d⟩:=c lo h1
  have e:p.1=q.1:=by
   rcases Nat.lt_trichotomy p.1 q.1 with z | z | z
   ·have:=d q h2 z
    have h3':cO l w ps q=px ps lo:=h3;omega
   ·exact z
   ·exact absurd f (h4 p i z)
  rw[g,e]
theorem QH(a:Bool)(hw:2<=w):∀(es:List Nat) (lo:Nat),Nx a l w lo es->es.length+lo<=l.length
 | [],lo,h=>by
  have:lo=l.length:=h
  rw[zU];omega
 |e::es,lo,⟨h1,h2,h3⟩=>by
  have:=QH a hw es e h3
  have:=Hx a h1 hw
  rw[zw];omega
theorem uZ:∀(es:List Nat) (lo:Nat),(pr lo es).length=es.length
 | [],_=>rfl
 |e::es,lo=>by
  show(pr e es).length+1=_;rw[uZ es e];rfl
structure rn(l:List LT)(w:Int)(y:List Nat)(st:List (Nat×Nat)):Prop where
 ans:Ans l w y st
 law:∀O,∃O',lB [dW l,.int w,.str y] O=.ok (.lst (st.map dS)) O'/\Kp O O'
 ne:st≠[]
 len:st.length<=201
theorem QJ(a b c:D)(O:ak):lB [a,b,c] O=bu (uJ [some a,some b,some c,none,none,none,none] O):=by
 unfold lB;rw[fQ];rfl
theorem QK(O E:ak):Kp O (O++E):=λj x h=>by
 rw[zA (zl.mp h).1];exact h
theorem QL{y:List Nat}(hok:∀x∈l,OkL x)(h0:l≠[])(g:y≠oW){st:Nat->Nat->Prop}{es:List Nat}(m:es≠[])(i:Cs l st 0 es)(hlen:es.length<=200)(O:ak){k:Nat}{E:ak}
  (j:bc (aJ (ao gEq (aa 2) (mC (.str [101,118,101,110])))) (aF 3 (aH qM (aj (aa 0) (aj (aa 1) aq)))) bj [some (dW l),some (.int w),some (.str y),some (.ob O.length),none,none,none] (O++[.dk []])=.nx [some (dW l),some (.int w),some (.str y),some (.ob k),none,none,none] (O++E))
  (h:∀lo e acc a,lo<l.length->st lo e->S6 (tE l w y k acc lo a) (O++E)=.nx (tE l w y k acc lo (some (iN e))) (O++E)):lB [dW l,.int w,.str y] O=.ok (.lst ((pr 0 es).map dS)) (O++E):=by
 obtain⟨a,q⟩:=QD (O++E) h es 0 wF [] none i (by unfold wF;omega) (by rw[zU];omega)
 have b:dJ (aJ (ao gEq (aa 0) (bI aq))) (aJ (ao gEq (aa 2) (mC (.str [99,117,116])))) [some (dW l),some (.int w),some (.str y),none,none,none,none] O=.ok false O:=by
  refine or_f (fB (bx (x:=dW l) (y:=.lst []) rfl rfl ?_)) (fB (bx (x:=.str y) (y:=.str oW) rfl rfl ?_))
  ·unfold dW;rw[cT,cT,ud,ym l hok,show okE (.lst [])=true from rfl,Bool.and_self,if_pos rfl]
   cases l with
   |nil=>exact absurd rfl h0
   |cons x r=>rfl
  ·show some (D.bl (decide (y=oW)))=_;rw[zf g]
 have f:aF 3 n6 [some (dW l),some (.int w),some (.str y),none,none,none,none] O=.nx [some (dW l),some (.int w),some (.str y),some (.ob O.length),none,none,none] (O++[.dk []]):=yw rfl;have d:aF 4 (bI aq) [some (dW l),some (.int w),some (.str y),some (.ob k),none,none,none] (O++E)=.nx [some (dW l),some (.int w),some (.str y),some (.ob k),some (.lst []),none,none] (O++E):=bw rfl;have c:aF 5 (mC (.int 0)) [some (dW l),some (.int w),some (.str y),some (.ob k),some (.lst []),none,none] (O++E)=.nx (tE l w y k [] 0 none) (O++E):=bw rfl;rw[QJ];unfold uJ;unfold yK S6 at q;rw[cu,dh b,jt,cW,sq f,sq j,sq d,sq c,cu,uh,q,cW,zD]
 rfl
theorem rn.ex(hok:∀x∈l,OkL x)(j:l.length<=200)(hw:2<=w/\w<=40){y:List Nat}(C:Wy4 y):∃st,rn l w y st:=by
 have first:∀O,(aJ (ao gEq (aa 0) (bI aq)) [some (dW l),some (.int w),some (.str y),none,none,none,none] O=.ok true O\/(aJ (ao gEq (aa 0) (bI aq)) [some (dW l),some (.int w),some (.str y),none,none,none,none] O=.ok false O/\y=oW))->lB [dW l,.int w,.str y] O=.ok (.lst ([(0,bZ l w)].map dS)) O:=λO h=>by
  have G:dJ (aJ (ao gEq (aa 0) (bI aq))) (aJ (ao gEq (aa 2) (mC (.str [99,117,116])))) [some (dW l),some (.int w),some (.str y),none,none,none,none] O=.ok true O:=by
   rcases h with h | ⟨h,P⟩
   ·exact Qz h
   ·rw[QB h,P];rfl
  have Q:=yI l (by omega) w (by omega) O;rw[QJ];unfold uJ;rw[cu,dU G,dX (d:=.lst [dS (0,bZ l w)]) (lD (ma1 (jx (xs:=[.int 0,.int (bZ l w:Nat)]) (maS rfl (ma1 ((bz (maS (x:=dW l) rfl (ma1 (x:=.int w) rfl))).trans Q))) (show 2<=1000000 by decide))) (show(1:Nat)<=1000000 by decide))];rfl
 by_cases h0:l=[]
 ·subst h0;refine⟨[(0,0)],QvL w hw C,λO=>⟨O,?_,Kp.rfl'⟩,by decide,by decide⟩
  exact first O (.inl rfl)
 have T:0<l.length:=List.length_pos_iff.mpr h0
 have nE:∀O,aJ (ao gEq (aa 0) (bI aq)) [some (dW l),some (.int w),some (.str y),none,none,none,none] O=.ok false O:=λO=>by
  refine fB (bx (x:=dW l) (y:=.lst []) rfl rfl ?_);unfold dW;rw[cT,cT,ud,ym l hok,show okE (.lst [])=true from rfl,Bool.and_self,if_pos rfl]
  cases l with
  |nil=>exact absurd rfl h0
  |cons x r=>rfl
 have n:∀f:Bool,y=ky f->(∀(k:Nat) (O:ak) lo e a b,lo<l.length->e=nxt f l lo w->S6 (tE l w y k a lo b) O=.nx (tE l w y k a lo (some (iN e))) O)->∃st,rn l w y st:=λf B H=>by
  obtain⟨g,q,J⟩:=QvN f l h0 j w hw
  have m:g≠[]:=λz=>by
   rw[z] at q
   have:0=l.length:=q
   omega
  have hlen:=QH f hw.1 g 0 q;refine⟨pr 0 g,by rw[B];exact J,λO=>⟨O++[.dk []],?_,QK _ _⟩,λz=>m (List.eq_nil_of_length_eq_zero (by rw[<-uZ g 0,z];rfl)),by rw[uZ];omega⟩;refine QL hok h0 (by rw[B];cases f<;>decide) m (QF g 0 q) (by omega) O (k:=O.length) ?_ (λlo e a b h1 h2=>H O.length _ lo e a b h1 h2);rw[dh (show aJ (ao gEq (aa 2) (mC (.str [101,118,101,110]))) [some (dW l),some (.int w),some (.str y),some (.ob O.length),none,none,none] (O++[.dk []])=.ok false (O++[.dk []]) by rw[B];cases f<;>rfl)];rfl
 cases C with
 |cut =>
  have e:rch l 0 w=bZ l w:=by unfold rch;rw[List.drop_zero,zY]
  exact⟨[(0,rch l 0 w)],Qvu l h0 j w hw,λO=>⟨O,by rw[e];exact first O (.inr ⟨nE O,rfl⟩),Kp.rfl'⟩,λz=>(nomatch z),show 1<=201 by decide⟩
 |cells=>exact n false rfl λk O lo e a b h1 h2=>Qrt j hw.1 k O lo e a b h1 h2
 |words=>exact n true rfl λk O lo e a b h1 h2=>Qra j hw.1 k O lo e a b h1 h2
 |even =>
  obtain⟨R,i,u,L,E⟩:=Qvo l w j hw.1 hw.2
  have m:i.map (·.1)≠[]:=λz=>by
   rw[List.map_eq_nil_iff.mp z] at u
   have:0=l.length:=u
   omega
  have g:stE (i.map (·.1))=pr 0 (i.map (·.1)):=if_neg m;rw[g] at E;have hlen:=u.len hw.1;refine⟨pr 0 (i.map (·.1)),Qum l h0 w hw E,λO=>?_,λz=>m (List.eq_nil_of_length_eq_zero (by rw[<-uZ (i.map (·.1)) 0,z];rfl)),by rw[uZ,zd];omega⟩;obtain⟨c,o,F,I⟩:=Quk j hw.1 hw.2 L (O++[.dk []]);rw[zn,zI] at F;refine⟨O++([.dk []]++[.dk c,.dk o]),?_,QK _ _⟩;refine QL hok h0 (by decide) m (QG I i 0 u) (by rw[zd];omega) O (k:=O.length+1+1) ?_ (λlo e a b h1 h2=>QsR (O.length+1+1) _ (o:=o) ?_ lo e a b h1 h2)
  ·rw[dU (show aJ (ao gEq (aa 2) (mC (.str [101,118,101,110]))) [some (dW l),some (.int w),some (.str jW),some (.ob O.length),none,none,none] (O++[.dk []])=.ok true (O++[.dk []]) from rfl)];exact yw ((bz (maS (x:=dW l) rfl (ma1 (x:=.int w) rfl))).trans F)
  ·rw[zC (by omega),show O.length+1+1 - O.length=2 by omega];rfl
end
theorem rz(n k:Int)(h0:0<=k)(h1:k<=1000000)(O:ak):fj [.int n,.int k] O=.ok (.int (mix n k)) O:=Z3 n k h0 h1 O
theorem u0(ns:List Int)(k:Nat)(O:ak):∃v,fV [.lst (ns.map D.int),.int (k:Int)] O=.ok (.int v) O:=by
 by_cases a:(k:Int)<ns.length
 ·obtain⟨x,b,ex⟩:=Ca (xs:=ns.map D.int) (i:=(k:Int)) (by omega) (by simpa using a);obtain⟨n,_,rfl⟩:=zx.mp ex;exact⟨n,by simp[fV,xC,a,wg,b]⟩
 ·exact⟨0,by simp[fV,xC,a]⟩
def Po(l:List LT):Prop:=∀(i:Nat) (x:LT),l[i]?=some x->7 * (i:Int)<=x.2.2.2/\x.2.2.2<7 * (i:Int)+7
theorem oX{a b:L2.M D}{ρ:az}{O:ak}{i j:Int}(d:a ρ O=.ok (.int i) O)(hb:b ρ O=.ok (.int j) O)(c:0<j/\j<1073741824):ao dG a b ρ O=.ok (.int (i / j)) O:=bx d hb (by rw[cV,cV,ZX,if_pos c])
def sgs:List Nat:=[97,98,32,120,65,32,32,66,90,99,32,91]
def yL:MS:=(aD (aF 5 (aH fj (aj (aa 0) (aj (ao aZ (aa 2) (aa 4)) aq))))
  (aD (aF 6 (ao gIx (mC (.str sgs)) (ao bH (aa 5) (mC (.int 12)))))
  (dq 3 (cG (aj (aa 6) (aj (ao gIx (mC (.str [97,98,46])) (ao bH (ao dG (aa 5) (mC (.int 12))) (mC (.int 3)))) (aj (ao gIx (mC (.str [104,46])) (ao bH (ao dG (aa 5) (mC (.int 36))) (mC (.int 2)))) (aj (ao aZ (ao fJ (mC (.int 7)) (aa 4)) (ao bH (ao dG (aa 5) (mC (.int 72))) (mC (.int 7)))) aq))))))))
def eT(c:Int)(n:Nat)(l:List LT)(d b a:Option D):az:=[some (.int c),some (.int (n:Int)),some (.int 12),some (.lst (l.map dL)),d,b,a]
theorem QvK(c:Int)(n:Nat)(l:List LT)(R:l.length<=1000)(hok:∀x∈l,OkL x)(J:Po l)(q f:Option D)(O:ak):∃x h g,yL (eT c n l (some (.int (0+(l.length:Int)))) q f) O=.nx (eT c n (l++[x]) (some (.int (0+(l.length:Int)))) h g) O/\(∀y∈l++[x],OkL y)/\Po (l++[x]):=by
 have r:=rz c (12+(0+(l.length:Int))) (by omega) (by omega) O
 generalize mix c (12+(0+(l.length:Int)))=m at r
 obtain⟨a,h1,I⟩:=ixS (l:=sgs) (v:=m) (n:=12) (by decide) rfl (by decide);obtain⟨z,h2,H⟩:=ixS (l:=[97,98,46]) (v:=m / 12) (n:=3) (by decide) rfl (by decide);obtain⟨u,h3,G⟩:=ixS (l:=[104,46]) (v:=m / 36) (n:=2) (by decide) rfl (by decide);have B:aH fj (aj (aa 0) (aj (ao aZ (aa 2) (aa 4)) aq)) (eT c n l (some (.int (0+(l.length:Int)))) q f) O=.ok (.int m) O:=(bz (maS rfl (ma1 (yh (i:=12) rfl rfl)))).trans r;have L:ao fJ (mC (.int 7)) (aa 4) (eT c n l (some (.int (0+(l.length:Int)))) (some (.int m)) (some (.str [a]))) O=.ok (.int (7 * (0+(l.length:Int)))) O:=bx rfl rfl QwR
 refine⟨(a,z,u,7 * (0+(l.length:Int))+m / 72 % 7),some (.int m),some (.str [a]),?_,?_,?_⟩
 ·unfold yL;rw[sq (bw B)];show aD _ _ (eT c n l (some (.int (0+(l.length:Int)))) (some (.int m)) f) O=_;rw[sq (bw (bx (x:=.str sgs) rfl (oU (i:=m) rfl rfl (by decide)) I))];show dq 3 _ (eT c n l (some (.int (0+(l.length:Int)))) (some (.int m)) (some (.str [a]))) O=_;rw[oR (ds:=l.map dL) (jx (maS (x:=.str [a]) rfl (maS (bx (x:=.str [97,98,46]) rfl (oU (oX (i:=m) rfl rfl (by decide)) rfl (by decide)) H) (maS (bx (x:=.str [104,46]) rfl (oU (oX (i:=m) rfl rfl (by decide)) rfl (by decide)) G) (ma1 (yh L (oU (oX (i:=m) rfl rfl (by decide)) rfl (by decide))))))) (show(4:Nat)<=1000000 by decide)) rfl (by rw[zd];omega)]
  unfold eT;rw[zK];rfl
 ·intro y b
  rcases zz.mp b with b | b
  ·exact hok y b
  ·rw[zk.mp b]
   have F:∀c∈sgs,32<=c/\c<=125:=by decide
   have E:∀c∈[97,98,46],c<=125:=by decide
   have C:∀c∈[104,46],c<=125:=by decide
   exact⟨F a h1,E z h2,C u h3⟩
 ·intro i x d;have Q:=jj (m / 72) (show(7:Int)≠0 by decide);have P:=jk (m / 72) (show(0:Int)<7 by decide)
  by_cases hi:i<l.length
  ·rw[zA hi] at d;exact J i x d
  ·have j:=(zl.mp d).1;rw[zn,zV] at j;rw[zC (by omega),show i - l.length=0 by omega] at d;cases d
   have:i=l.length:=by omega
   subst this;show 7 * (l.length:Int)<=7 * (0+(l.length:Int))+m / 72 % 7/\7 * (0+(l.length:Int))+m / 72 % 7<7 * (l.length:Int)+7;omega
structure Rw(l:List LT):Prop where
 le:l.length<=80
 ok:∀x∈l,OkL x
 po:Po l
theorem QM(c:Int)(n:Nat)(C:n<=80)(O:ak):∃l,Rw l/\oO [.int c,.int (n:Int),.int 12] O=.ok (.lst (l.map dL)) O:=by
 obtain⟨z,a,e,rfl,l,j,h,f,rfl,h1,h2,h3⟩:=qi (g:=mgN 4) (b:=yL)
  (λi ρ a=>a=O/\∃l j h f,ρ=eT c n l j h f/\l.length=i/\(∀x∈l,OkL x)/\Po l) (cH 0 n) 0
  (eT c n [] none none none) O ⟨rfl,[],none,none,none,rfl,rfl,λx m=>(nomatch m),λi x m=>(by simp at m)⟩ (by
   rintro i d ρ a hi ⟨rfl,l,j,h,f,rfl,h1,h2,h3⟩;obtain⟨B,rfl⟩:=NT hi;obtain⟨x,r,q,e,y,u⟩:=QvK c n l (by omega) h2 h3 h f a;rw[h1] at e;rw[zY] at e
   exact⟨_,rfl,_,_,.inl e,rfl,l++[x],_,r,q,rfl,by rw[zn,zV];omega,y,u⟩)
 rw[qj,zY] at h1;refine⟨l,⟨by omega,h2,h3⟩,?_⟩;unfold yL sgs at e;show bu (xE [some (.int c),some (.int (n:Int)),some (.int 12),none,none,none,none] a)=_;unfold xE;rw[sq (bw (d:=.lst []) (lD rfl (Nat.zero_le _)))];show bu (aD (cA _ _ _) _ (eT c n [] none none none) a)=_;rw[cu,gO,NB (n:=n) rfl (by omega),gP,e,cW];rfl
abbrev Pt2:=List LT×List Nat
def HH:List Nat:=[119,104,111,108,101]
def HJ:List Nat:=[109,111,114,101]
def POk(p:Pt2):Prop:=Rw p.1/\(p.2=HH\/p.2=HJ)
def dP(p:Pt2):D:=.tup [.lst (p.1.map dL),.str p.2]
def yM:MS:=(aD (aF 4 (aH fV (aj (aa 0) (aj (ao aZ (mC (.int 4)) (aa 3)) aq))))
  (aD (aF 5 (ao gIx (bI (aj (mC (.str [119,104,111,108,101])) (aj (mC (.str [109,111,114,101])) aq))) (ao bH (aH fj (aj (aa 4) (aj (mC (.int 9)) aq))) (mC (.int 2)))))
  (dq 2 (cG (aj (aH oO (aj (aa 4) (aj (ao bH (aH fj (aj (aa 4) (aj (mC (.int 10)) aq))) (ao aZ (aa 1) (mC (.int 1)))) (aj (mC (.int 12)) aq)))) (aj (aa 5) aq))))))
def eP(ns:List Int)(ps:List Pt2)(c b a:Option D):az:=[some (.lst (ns.map D.int)),some (.int 14),some (.lst (ps.map dP)),c,b,a]
theorem Qwd(ns:List Int)(ps:List Pt2)(L:ps.length<=1000)(E:∀p∈ps,POk p)(i:Nat)(m b:Option D)(O:ak):∃p f d,yM (eP ns ps (some (.int (0+(i:Int)))) m b) O=.nx (eP ns (ps++[p]) (some (.int (0+(i:Int)))) f d) O/\∀q∈ps++[p],POk q:=by
 obtain⟨v,G⟩:=u0 ns (4+i) O;have B:=rz v 9 (by decide) (by decide) O;have g:=rz v 10 (by decide) (by decide) O;have z:=jj (mix v 10) (show(14+1:Int)≠0 by decide);have J:=jk (mix v 10) (show(0:Int)<14+1 by decide);obtain⟨n,F⟩:=Int.eq_ofNat_of_zero_le z;obtain⟨l,h,H⟩:=QM v n (by omega) O;obtain⟨c,r,I⟩:=ixL (l:=[.str [119,104,111,108,101],.str [109,111,114,101]]) (v:=mix v 9) (n:=2) rfl (by decide)
 obtain⟨t,rfl,C⟩:∃t,c=.str t/\(t=HH\/t=HJ):=by
  simp only[zo,List.not_mem_nil,or_false] at r
  rcases r with rfl | rfl
  ·exact⟨_,rfl,.inl rfl⟩
  ·exact⟨_,rfl,.inr rfl⟩
 have y:aH fV (aj (aa 0) (aj (ao aZ (mC (.int 4)) (aa 3)) aq)) (eP ns ps (some (.int (0+(i:Int)))) m b) O=.ok (.int v) O:=by
  rw[bz (maS (x:=.lst (ns.map D.int)) rfl (ma1 (x:=.int ((4+i:Nat):Int)) ((yh (i:=4) (j:=0+(i:Int)) rfl rfl).trans (by rw[show(4:Int)+(0+(i:Int))=((4+i:Nat):Int) by omega]))))];exact G
 have u:ao gIx (bI (aj (mC (.str [119,104,111,108,101])) (aj (mC (.str [109,111,114,101])) aq))) (ao bH (aH fj (aj (aa 4) (aj (mC (.int 9)) aq))) (mC (.int 2))) (eP ns ps (some (.int (0+(i:Int)))) (some (.int v)) b) O=.ok (.str t) O :=
  bx (lD (maS rfl (ma1 rfl)) (by decide)) (oU ((bz (maS (x:=.int v) rfl (ma1 (x:=.int 9) rfl))).trans B) rfl (by decide)) I
 have sl:aH oO (aj (aa 4) (aj (ao bH (aH fj (aj (aa 4) (aj (mC (.int 10)) aq))) (ao aZ (aa 1) (mC (.int 1)))) (aj (mC (.int 12)) aq))) (eP ns ps (some (.int (0+(i:Int)))) (some (.int v)) (some (.str t))) O=.ok (.lst (l.map dL)) O:=by
  rw[bz (maS (x:=.int v) rfl (maS (x:=.int (n:Int)) ((oU ((bz (maS (x:=.int v) rfl (ma1 (x:=.int 10) rfl))).trans g) (yh (i:=14) (j:=1) rfl rfl) (by decide)).trans (by rw[F])) (ma1 (x:=.int 12) rfl)))];exact H
 refine⟨(l,t),some (.int v),some (.str t),?_,λq a=>?_⟩
 ·unfold yM;rw[sq (bw y)];show aD _ _ (eP ns ps (some (.int (0+(i:Int)))) (some (.int v)) b) O=_;rw[sq (bw u)];show dq 2 _ (eP ns ps (some (.int (0+(i:Int)))) (some (.int v)) (some (.str t))) O=_;rw[oR (ds:=ps.map dP) (jx (maS sl (ma1 (x:=.str t) rfl)) (show(2:Nat)<=1000000 by decide)) rfl (by rw[zd];omega)];unfold eP;rw[zK];rfl
 ·rcases zz.mp a with a | a
  ·exact E q a
  ·rw[zk.mp a];exact⟨h,C⟩
theorem Qv9(ns:List Int)(O:ak):∃ps:List Pt2,ps.length<=4/\(∀p∈ps,POk p)/\xG [.lst (ns.map D.int),.int 14] O=.ok (.lst (ps.map dP)) O:=by
 obtain⟨v,z⟩:=u0 ns 2 O;have q:=jj v (show(5:Int)≠0 by decide);have E:=jk v (show(0:Int)<5 by decide);obtain⟨n,y⟩:=Int.eq_ofNat_of_zero_le q;obtain⟨B,a,e,rfl,ps,h,f,c,rfl,h1,h2⟩:=qi (g:=mgN 3) (b:=yM)
  (λi ρ a=>a=O/\∃ps h f c,ρ=eP ns ps h f c/\ps.length=i/\∀p∈ps,POk p) (cH 0 n) 0
  (eP ns [] none none none) O ⟨rfl,[],none,none,none,rfl,rfl,λx u=>(nomatch u)⟩ (by
   rintro i d ρ a hi ⟨rfl,ps,h,f,c,rfl,h1,h2⟩;obtain⟨C,rfl⟩:=NT hi;obtain⟨p,l,j,e,r⟩:=Qwd ns ps (by omega) h2 i f c a
   exact⟨_,rfl,_,_,.inl e,rfl,ps++[p],_,l,j,rfl,by rw[zn,zV];omega,r⟩)
 rw[qj,zY] at h1;refine⟨ps,by omega,h2,?_⟩;have m:ao bH (aH fV (aj (aa 0) (aj (mC (.int 2)) aq))) (mC (.int 5)) (eP ns [] none none none) a=.ok (.int (n:Int)) a :=
  (oU ((bz (maS (x:=.lst (ns.map D.int)) rfl (ma1 (x:=.int 2) rfl))).trans z) rfl (by decide)).trans (by rw[y])
 unfold yM at e;show bu (xF [some (.lst (ns.map D.int)),some (.int 14),none,none,none,none] a)=_;unfold xF;rw[sq (bw (d:=.lst []) (lD rfl (Nat.zero_le _)))];show bu (aD (cA _ _ _) _ (eP ns [] none none none) a)=_;rw[cu,gO,NB (n:=n) m (by omega),gP,e,cW];rfl
def dLs(L:List (List LT)):D:=.lst (L.map dW)
def rm(x t w:Int)(y:List Nat):D:=.tup [.str [97],.int 0,.int x,.int t,.int w,.str y]
def shw(l:List LT)(w:Int)(p:Nat×Nat):List LT:=((l.drop p.1).take (p.2 - p.1)).take (bZ ((l.drop p.1).take (p.2 - p.1)) w)
theorem Qvz(l:List LT)(w:Int)(c:l.length<=1000)(O:ak):xg [dW l,.int w] O=.ok (dW (l.take (bZ l w))) O:=by
 have a:=yo l 0 w c (Nat.zero_le _) O
 have h0:rch l 0 w=bZ l w:=by unfold rch;rw[List.drop_zero,zY]
 rw[h0] at a;have s:=uR (m:=aa 0) (b:=aH mU (aj (aa 0) (aj (mC (.int 0)) (aj (aa 1) aq)))) (ρ:=[some (dW l),some (.int w)]) (O:=O) (l:=l) (k:=bZ l w) rfl ((bz (maS (x:=dW l) rfl (maS (x:=.int 0) rfl (ma1 (x:=.int w) rfl)))).trans a);show bu (xf [some (dW l),some (.int w)] O)=_;unfold xf;rw[dX s];rfl
structure LnF(w:Int)(y:List Nat)(Ln:List LT->List (List LT)):Prop where
 hw:2<=w/\w<=40
 ok:∀l,(∀x∈l,OkL x)->l.length<=200->∃st,rn l w y st/\Ln l=st.map (shw l w)
theorem LnF.ex{w:Int}(hw:2<=w/\w<=40){y:List Nat}(c:Wy4 y):∃b,LnF w y b:=by
 obtain⟨b,h⟩:=Classical.axiomOfChoice (r:=λ(l:List LT) (L:List (List LT))=>(∀x∈l,OkL x)->l.length<=200->∃a,rn l w y a/\L=a.map (shw l w)) (λl=>by
  by_cases h:(∀x∈l,OkL x)/\l.length<=200
  ·obtain⟨a,d⟩:=rn.ex h.1 h.2 hw c;exact⟨a.map (shw l w),λ_ _=>⟨a,d,rfl⟩⟩
  ·exact⟨[],λh1 h2=>absurd ⟨h1,h2⟩ h⟩)
 exact⟨b,hw,h⟩
section
variable {w:Int}{y:List Nat}{Ln:List LT->List (List LT)}
theorem LnF.ne(F:LnF w y Ln){l:List LT}(h1:∀x∈l,OkL x)(h2:l.length<=200):Ln l≠[]/\(Ln l).length<=201/\∀r∈Ln l,(∀x∈r,OkL x)/\r.length<=200:=by
 obtain⟨c,B,e⟩:=F.ok l h1 h2;rw[e];refine⟨λz=>B.ne (List.map_eq_nil_iff.mp z),by rw[zd];exact B.len,λr b=>?_⟩;obtain⟨p,_,rfl⟩:=zx.mp b;unfold shw;refine⟨λx a=>h1 x (jr (List.mem_of_mem_take (List.mem_of_mem_take a))),?_⟩;rw[List.length_take,List.length_take,List.length_drop];omega
theorem QQ(F:LnF w y Ln){l:List LT}(h1:∀x∈l,OkL x)(h2:l.length<=200)(x t:Int)(O:ak):∃c,lq [dW l,rm x t w y] O=.ok (dLs (Ln l)) c/\Kp O c:=by
 obtain⟨d,B,e⟩:=F.ok l h1 h2;obtain⟨c,f,k⟩:=B.ans l rfl O;have n:aH oM (aj (aa 0) (aj (ao gIx (aa 1) (mC (.int 4))) (aj (ao gIx (aa 1) (mC (.int 5))) aq))) [some (dW l),some (rm x t w y),none] O=.ok (.lst (d.map dS)) c:=(bz (maS (x:=dW l) rfl (maS (x:=.int w) rfl (ma1 (x:=.str y) rfl)))).trans f
 have h:=kW (g:=gw 2 (cM (mgN 0) (cM (mgN 1) ir))) (t:=cQ) (m:=aH xg (aj (mSl (aa 2) (moS (aa 0)) (moS (aa 1))) (aj (ao gIx (aa 3) (mC (.int 4))) aq))) (λρ=>∃a b,ρ=[a,b,some (dW l),some (rm x t w y)]) dS (λp=>dW (shw l w p)) d [none,none,some (dW l),some (rm x t w y)] c [] ⟨_,_,rfl⟩ (by
  rintro p hp ρ ⟨a,b,rfl⟩;refine⟨[some (.int (p.1:Int)),some (.int (p.2:Int)),some (dW l),some (rm x t w y)],rfl,⟨_,_,rfl⟩,rfl,?_⟩;have sl:=yF (m:=aa 2) (a:=aa 0) (b:=aa 1) (ρ:=[some (.int (p.1:Int)),some (.int (p.2:Int)),some (dW l),some (rm x t w y)]) (O:=c) (l:=l) (i:=p.1) (k:=p.2) rfl rfl rfl;rw[bz (maS sl (ma1 (x:=.int w) rfl))]
  exact Qvz _ w (by rw[List.length_take,List.length_drop];omega) c)
 rw[zD] at h;have hlen:=B.len;refine⟨c,?_,k⟩
 have q:lq [dW l,rm x t w y] O=bu (xn [some (dW l),some (rm x t w y),none] O):=by
  unfold lq;rw[fQ];rfl
 have j:aF 2 (aH oM (aj (aa 0) (aj (ao gIx (aa 1) (mC (.int 4))) (aj (ao gIx (aa 1) (mC (.int 5))) aq)))) [some (dW l),some (rm x t w y),none] O=.nx [some (dW l),some (rm x t w y),some (.lst (d.map dS))] c:=oV n;rw[q];unfold xn;rw[sq j,dX (lG (own:=2) (cap:=[0,1]) (fW (m:=aa 2) (l:=d.map dS) rfl) (by rw[zd];omega) (ρ0:=[none,none,some (dW l),some (rm x t w y)]) rfl h),e];unfold dLs;rw[zP];rfl
theorem QR{α:Type}{g:MG}{t:L2.M Bool}{m:L2.M D}(c:az->Prop)(f h:α->D):∀(xs:List α) (ρ:az) (O:ak) (acc:List D),c ρ->(∀x∈xs,∀ρ O,c ρ->∃a b,g (f x) ρ=some a/\c a/\t a O=.ok true O/\m a O=.ok (h x) b/\Kp O b)->∃b,cZ g t m (xs.map f) ρ O acc=.ok (acc++xs.map h) b/\Kp O b
 | [],ρ,O,acc,_,_=>⟨O,by simp[cZ],Kp.rfl'⟩
 |x::xs,ρ,O,acc,hp,hs=>by
  obtain⟨a,z,r,h1,q,n,j⟩:=hs x zp ρ O hp
  obtain⟨b,l,i⟩:=QR c f h xs a z (acc++[h x]) h1 λu d=>hs u (zt _ d)
  refine⟨b,?_,j.tr i⟩;rw[ze];unfold cZ;rw[r];dsimp only;rw[q];dsimp only;rw[n];dsimp only;rw[l,ze,zI];rfl
theorem QS{m:L2.M (List D)}{own:Nat}{cap:List Nat}{g:MG}{t:L2.M Bool}{e:L2.M D}{ρ ρ0:az}{O a:ak}{ds ys:List D}(h:m ρ O=.ok ds O)(b:ds.length<=1000000)(h0:iu own cap ρ=ρ0)(c:cZ g t e ds ρ0 O []=.ok ys a):c7 m own cap g t e ρ O=.ok (.lst ys) a:=by
 rw[BR,h,aN,if_pos b,h0,c];rfl
def b7{α:Type}(t:Nat)(A:List α):List α:=A.drop (A.length - t)
theorem QzB{α:Type}(t:Nat)(a:0<t)(l:List α):du l (some (-(t:Int))) none=b7 t l:=by
 unfold du;rw[HT.sIx_none]
 have h:HT.sIx l.length 0 (some (-(t:Int)))=l.length - t:=by
  simp[HT.sIx]
  rw[if_pos a];omega
 rw[h,List.take_of_length_le (by rw[List.length_drop];omega)];rfl
theorem QsQ{α:Type}{t:Nat}{A B:List α}(h:t<=B.length):b7 t (A++B)=b7 t B:=by
 unfold b7;rw[zn,List.drop_append,List.drop_of_length_le (by omega),zD,show A.length+B.length - t - A.length=B.length - t by omega]
theorem QT{α β:Type}(f:α->β)(t:Nat)(A:List α):(b7 t A).map f=b7 t (A.map f):=by
 unfold b7;rw[List.map_drop,zd]
theorem QV{α β:Type}{g:α->List β}:∀(ps:List α),(∀p∈ps,g p≠[])->ps.length<=(ps.flatMap g).length
 | [],_=>zb _
 |p::ps,h=>by
  have:=QV ps λq a=>h q (zt _ a)
  have:=List.length_pos_iff.mpr (h p zp)
  rw[List.flatMap_cons,zn,zw];omega
theorem QqZ{α β:Type}{g:α->List β}(ps:List α)(h:∀p∈ps,g p≠[])(t:Nat)(E:List β):b7 t ((b7 t ps).flatMap g++E)=b7 t (ps.flatMap g++E):=by
 by_cases d:ps.length<=t
 ·rw[show b7 t ps=ps by unfold b7;rw[show ps.length - t=0 by omega,List.drop_zero]]
 ·have e:ps=ps.take (ps.length - t)++b7 t ps:=(List.take_append_drop _ _).symm
  have k:=QV (g:=g) (b7 t ps) λp a=>h p (jr a)
  have c:(b7 t ps).length=t:=by unfold b7;rw[List.length_drop];omega
  have b:ps.flatMap g++E=(ps.take (ps.length - t)).flatMap g++((b7 t ps).flatMap g++E):=by
   rw[<-zI,<-List.flatMap_append,<-e]
  rw[b];exact(QsQ (by rw[zn];omega)).symm
end
def obs:Nat->Nat->List D
 | _,0=>[]
 |n,k+1=>.ob n::obs (n+1) k
def mls(B:List (List LT)):ak:=B.map λl=>.ml (l.map dL)
def gn(b:List LT->List (List LT))(a:List LT):List (List LT):=if a=[] then[] else b a
theorem QW:∀(B:List (List LT)) (ρ:az) (O:ak) (acc:List D),(∃a,ρ=[a])->cZ (mgN 0) cQ (mMl (aY gD (aj (aa 0) aq))) (B.map dW) ρ O acc=.ok (acc++obs O.length B.length) (O++mls B)
 | [],ρ,O,acc,_=>by
  show Res.ok acc O=_;rw[show obs O.length ([]:List (List LT)).length=[] from rfl,show mls []=[] from rfl,zH,zH]
 |l::B,ρ,O,acc,⟨a,e⟩=>by
  subst e;have c:=QW B [some (dW l)] (O++[.ml (l.map dL)]) (acc++[.ob O.length]) ⟨_,rfl⟩
  have b:mMl (aY gD (aj (aa 0) aq)) [some (dW l)] O=.ok (.ob O.length) (O++[.ml (l.map dL)]):=by
   unfold mMl;rw[yu (m:=aa 0) (d:=dW l) (l:=l.map dL) rfl rfl,aN]
  rw[ze];unfold cZ;rw[show mgN 0 (dW l) [a]=some [some (dW l)] from rfl];dsimp only;rw[show cQ [some (dW l)] O=.ok true O from rfl];dsimp only;rw[b];dsimp only;rw[c,zn,zI,zI];rfl
theorem QX{m:L2.M D}{ρ:az}{O:ak}{l:List D}{t:Nat}(b:0<t)(c:m ρ O=.ok (.lst l) O)(h2:ao gIx (aa 2) (mC (.int 3)) ρ O=.ok (.int (t:Int)) O):mSl m (moS (mUn iM (ao gIx (aa 2) (mC (.int 3))))) moN ρ O=.ok (.lst (b7 t l)) O:=by
 have a:mUn iM (ao gIx (aa 2) (mC (.int 3))) ρ O=.ok (.int (-(t:Int))) O:=by
  unfold mUn;rw[h2];rfl
 rw[qe,c,aN,oF,a,aN,oA,aN,vW,aN,cT,qg,QzB t b,dR]
section
variable {w:Int}{y:List Nat}{Ln:List LT->List (List LT)}
def eA(F R rm:D)(acc:List (List LT))(a:Option D):az:=[some F,some R,some rm,some (.lst (acc.map dW)),a]
theorem QZ{m:L2.M D}{ρ ρ':az}{O b:ak}{F R r:D}{acc L:List (List LT)}{a:Option D}(h:m (eA F R r acc a) O=.ok (dLs L) b)(c:acc.length+L.length<=1000000):iT 3 m (eA F R r acc a) O=.nx (eA F R r (acc++L) a) b:=by
 unfold iT;rw[h];show(if(acc.map dW).length+(L.map dW).length<=1000000 then Fl.nx ((eA F R r acc a).set 3 (some (.lst (acc.map dW++L.map dW)))) b else .no)=_;rw[zd,zd,if_pos c,<-zK];rfl
theorem Q0(F R r:D)(O:ak):∀(b:List (List (List LT))) (acc:List (List LT)) (c:Option D),(∀L∈b,L.length<=1000)->acc.length+1000 * b.length<=1000000 ->
  ∃a,bK (mgN 4) (iT 3 (aa 4)) (b.map dLs) (eA F R r acc c) O=.nx (eA F R r (acc++b.flatten) a) O
 | [],acc,c,_,_=>⟨c,by rw[List.flatten_nil,zH];rfl⟩
 |L::b,acc,c,h,hl=>by
  have h1:=h L zp;rw[zw] at hl;obtain⟨a,e⟩:=Q0 F R r O b (acc++L) (some (dLs L)) (λx d=>h x (zt _ d)) (by rw[zn];omega);refine⟨a,?_⟩;rw[ze];unfold bK;rw[show mgN 4 (dLs L) (eA F R r acc c)=some (eA F R r acc (some (dLs L))) from rfl];dsimp only;rw[QZ (ρ:=[]) (ρ':=[]) (m:=aa 4) (L:=L) rfl (by omega)];dsimp only;rw[e,List.flatten_cons,zI]
theorem QxN(G:LnF w y Ln)(c:List (List (List LT)))(i:∀L∈c,L.length<=1000)(E:c.length<=100)(a:List LT)(h1:∀x∈a,OkL x)(h2:a.length<=200)(x:Int)(t:Nat)(C:0<t)(O:ak):
  ∃d,uF [.lst (c.map dLs),dW a,rm x t w y] O=.ok (.lst (obs d.length (b7 t (c.flatten++gn Ln a)).length)) (d++mls (b7 t (c.flatten++gn Ln a)))/\Kp O d:=by
 obtain⟨g,e⟩:=Q0 (.lst (c.map dLs)) (dW a) (rm x t w y) O c [] none i (by rw[zU];omega);rw[zD] at e
 have P:c.flatten.length<=1000 * c.length:=by
  clear e E
  induction c with
  |nil=>exact zb _
  |cons L c ih =>
   have:=i L zp
   have:=ih λx B=>i x (zt _ B)
   rw[List.flatten_cons,zn,zw];omega
 have u:aF 3 (bI aq) [some (.lst (c.map dLs)),some (dW a),some (rm x t w y),none,none] O=.nx (eA (.lst (c.map dLs)) (dW a) (rm x t w y) [] none) O:=bw rfl
 have r:cA (bY (aa 0)) (mgN 4) (iT 3 (aa 4)) (eA (.lst (c.map dLs)) (dW a) (rm x t w y) [] none) O=.nx (eA (.lst (c.map dLs)) (dW a) (rm x t w y) c.flatten g) O:=by
  rw[gO,fW (l:=c.map dLs) rfl,gP,e]
 have h:=yG (b:=mC (.int 0)) (j:=0) (lJ (m:=aa 1) (ρ:=eA (.lst (c.map dLs)) (dW a) (rm x t w y) c.flatten g) (O:=O) (l:=a) rfl) rfl
 obtain⟨d,q,z,J⟩:∃d,bc (aJ (ao gGt (aY bT (aj (aa 1) aq)) (mC (.int 0)))) (iT 3 (aH lq (aj (aa 1) (aj (aa 2) aq)))) bj (eA (.lst (c.map dLs)) (dW a) (rm x t w y) c.flatten g) O=.nx (eA (.lst (c.map dLs)) (dW a) (rm x t w y) (c.flatten++gn Ln a) g) d/\Kp O d/\(gn Ln a).length<=1000:=by
  unfold gn
  by_cases h0:a=[]
  ·refine⟨O,?_,Kp.rfl',by rw[if_pos h0];exact Nat.zero_le _⟩;rw[zf (by rw[h0];decide)] at h;rw[dh h,if_pos h0,zH];rfl
  ·obtain⟨d,f,k⟩:=QQ G h1 h2 x t O;have H:=(G.ne h1 h2).2.1;have I:0<a.length:=List.length_pos_iff.mpr h0;refine⟨d,?_,k,by rw[if_neg h0];omega⟩;rw[zj (by omega)] at h;rw[dU h,if_neg h0];exact QZ (ρ:=[]) (ρ':=[]) ((bz (maS (x:=dW a) rfl (ma1 (x:=rm x t w y) rfl))).trans f) (by omega)
 refine⟨d,?_,z⟩;have sl:=QX C (m:=aa 3) (ρ:=eA (.lst (c.map dLs)) (dW a) (rm x t w y) (c.flatten++gn Ln a) g) (O:=d) (l:=(c.flatten++gn Ln a).map dW) rfl (bx (x:=rm x t w y) (y:=.int 3) rfl rfl rfl);rw[<-QT] at sl;have ml:=QW (b7 t (c.flatten++gn Ln a)) [none] d [] ⟨_,rfl⟩;rw[zD] at ml
 have n:(b7 t (c.flatten++gn Ln a)).length<=1000000:=by
  unfold b7;rw[List.length_drop,zn];omega
 have F:uF [.lst (c.map dLs),dW a,rm x t w y] O=bu (xx [some (.lst (c.map dLs)),some (dW a),some (rm x t w y),none,none] O):=by
  unfold uF;rw[fQ];rfl
 rw[F];unfold xx;rw[sq u,sq r,sq q,dX (QS (own:=1) (cap:=[]) (fW sl) (by rw[zd];exact n) (ρ0:=[none]) rfl ml)];rfl
def eE(Ln:List LT->List (List LT))(ps:List Pt2)(a:List LT):List (List LT):=ps.flatMap (λp=>Ln p.1)++gn Ln a
theorem QwU(G:LnF w y Ln)(ps:List Pt2)(P:ps.length<=4)(i:∀p∈ps,POk p)(b:List LT)(h1:∀x∈b,OkL x)(h2:b.length<=200)(x:Int)(t:Nat)(j:0<t)(O:ak):
  ∃d,qH [.lst (ps.map dP),dW b,rm x t w y] O=.ok (.lst (obs d.length (b7 t (eE Ln ps b)).length)) (d++mls (b7 t (eE Ln ps b)))/\Kp O d:=by
 have Q:(b7 t ps).length<=4:=by unfold b7;rw[List.length_drop];omega
 have n:∀p∈b7 t ps,POk p:=λp c=>i p (jr c)
 have sl:=QX j (m:=aa 0) (ρ:=[some (.lst (ps.map dP)),some (dW b),some (rm x t w y),none]) (O:=O) (l:=ps.map dP) rfl (bx (x:=rm x t w y) (y:=.int 3) rfl rfl rfl);rw[<-QT] at sl
 obtain⟨d,q,C⟩:=QR (g:=mgN 0) (t:=cQ) (m:=aH lq (aj (ao gIx (aa 0) (mC (.int 0))) (aj (aa 1) aq))) (λρ=>∃a,ρ=[a,some (rm x t w y)]) dP (λp=>dLs (Ln p.1)) (b7 t ps) [none,some (rm x t w y)] O [] ⟨_,rfl⟩ (by
  rintro p c ρ O ⟨a,rfl⟩;have h:=(n p c).1;obtain⟨J,f,k⟩:=QQ G h.ok (by have:=h.le;omega) x t O
  exact⟨[some (dP p),some (rm x t w y)],J,rfl,⟨_,rfl⟩,rfl,(bz (maS (bx (x:=dP p) (y:=.int 0) (z:=dW p.1) rfl rfl rfl) (ma1 (x:=rm x t w y) rfl))).trans f,k⟩)
 rw[zD] at q
 have u:aF 3 (c7 (bY (mSl (aa 0) (moS (mUn iM (ao gIx (aa 2) (mC (.int 3))))) moN)) 1 [2] (mgN 0) cQ (aH lq (aj (ao gIx (aa 0) (mC (.int 0))) (aj (aa 1) aq)))) [some (.lst (ps.map dP)),some (dW b),some (rm x t w y),none] O=.nx [some (.lst (ps.map dP)),some (dW b),some (rm x t w y),some (.lst (((b7 t ps).map λp=>Ln p.1).map dLs))] d:=by
  rw[zP];exact oV (QS (own:=1) (cap:=[2]) (fW sl) (by rw[zd];omega) (ρ0:=[none,some (rm x t w y)]) rfl q)
 obtain⟨I,r,B⟩:=QxN G ((b7 t ps).map λp=>Ln p.1) (λL E=>by
  obtain⟨p,c,rfl⟩:=zx.mp E;have h:=(n p c).1
  have:=(G.ne h.ok (by have:=h.le;omega)).2.1
  omega) (by rw[zd];omega) b h1 h2 x t j d
 have F:b7 t (((b7 t ps).map λp=>Ln p.1).flatten++gn Ln b)=b7 t (eE Ln ps b):=by
  unfold eE;rw[<-QqZ ps (λp c=>(G.ne (i p c).1.ok (by have:=(i p c).1.le;omega)).1) t (gn Ln b),List.flatMap_def]
 rw[F] at r;refine⟨I,?_,C.tr B⟩
 have H:qH [.lst (ps.map dP),dW b,rm x t w y] O=bu (xB [some (.lst (ps.map dP)),some (dW b),some (rm x t w y),none] O):=by
  unfold qH;rw[fQ];rfl
 rw[H];unfold xB;rw[sq u,dX ((bz (maS (x:=.lst (((b7 t ps).map λp=>Ln p.1).map dLs)) rfl (maS (x:=dW b) rfl (ma1 (x:=rm x t w y) rfl)))).trans r)];rfl
end
section
variable {w:Int}{y:List Nat}{Ln:List LT->List (List LT)}
def jE(ps:List Pt2)(a:List LT)(x t w:Int)(y:List Nat)(h g f d c b:Option D):az:=[some (.lst (ps.map dP)),some (dW a),some (rm x t w y),some (.str [97]),some (.int 0),some (.int x),some (.int t),some (.int w),some (.str y),h,g,f,d,c,b]
def gLH:MG:=gw 2 (cM (mgN 12) (cM (mgN 13) ir))
def u6:MS:=(aD (aF 14 (mSl (aa 11) (moS (aa 12)) (moS (aa 13)))) (dq 10 (mSl (aa 14) moN (moS (aH iH (aj (aa 14) (aj (aa 7) aq)))))))
def u9:MS:=cA (bY (aH lB (aj (aa 11) (aj (aa 7) (aj (aa 8) aq))))) gLH u6
theorem Q3(hw:2<=w)(ps:List Pt2)(c:List LT)(x t:Int)(h:Option D){l:List LT}(z:l.length<=200)(O:ak):∀(st:List (Nat×Nat)) (acc:List (List LT)) (g f d:Option D),acc.length+st.length<=100000 ->
  ∃r n j,bK gLH u6 (st.map dS) (jE ps c x t w y h (some (dLs acc)) (some (dW l)) g f d) O=.nx (jE ps c x t w y h (some (dLs (acc++st.map (shw l w)))) (some (dW l)) r n j) O
 | [],acc,g,f,d,_=>⟨g,f,d,by rw[zO,zO,zH];rfl⟩
 |p::st,acc,g,f,d,ha=>by
  rw[zw] at ha;have u:aF 14 (mSl (aa 11) (moS (aa 12)) (moS (aa 13))) (jE ps c x t w y h (some (dLs acc)) (some (dW l)) (some (.int (p.1:Int))) (some (.int (p.2:Int))) d) O=.nx (jE ps c x t w y h (some (dLs acc)) (some (dW l)) (some (.int (p.1:Int))) (some (.int (p.2:Int))) (some (dW ((l.drop p.1).take (p.2 - p.1))))) O:=bw (yF (m:=aa 11) (a:=aa 12) (b:=aa 13) (l:=l) (i:=p.1) (k:=p.2) rfl rfl rfl);have B:=yI ((l.drop p.1).take (p.2 - p.1)) (by rw[List.length_take,List.length_drop];omega) w (by omega) O;have sl:=uR (m:=aa 14) (b:=aH iH (aj (aa 14) (aj (aa 7) aq))) (ρ:=jE ps c x t w y h (some (dLs acc)) (some (dW l)) (some (.int (p.1:Int))) (some (.int (p.2:Int))) (some (dW ((l.drop p.1).take (p.2 - p.1))))) (O:=O) (l:=(l.drop p.1).take (p.2 - p.1)) (k:=bZ ((l.drop p.1).take (p.2 - p.1)) w) rfl ((bz (maS (x:=dW ((l.drop p.1).take (p.2 - p.1))) rfl (ma1 (x:=.int w) rfl))).trans B)
  have b:u6 (jE ps c x t w y h (some (dLs acc)) (some (dW l)) (some (.int (p.1:Int))) (some (.int (p.2:Int))) d) O=.nx (jE ps c x t w y h (some (dLs (acc++[shw l w p]))) (some (dW l)) (some (.int (p.1:Int))) (some (.int (p.2:Int))) (some (dW ((l.drop p.1).take (p.2 - p.1))))) O:=by
   unfold u6;rw[sq u,oR (ds:=acc.map dW) sl rfl (by rw[zd];omega)];unfold jE dLs shw;rw[zK];rfl
  obtain⟨r,n,j,q⟩:=Q3 hw ps c x t h z O st (acc++[shw l w p]) (some (.int (p.1:Int))) (some (.int (p.2:Int))) (some (dW ((l.drop p.1).take (p.2 - p.1)))) (by rw[zn];show acc.length+1+_<=_;omega);refine⟨r,n,j,?_⟩;rw[ze];unfold bK;rw[show gLH (dS p) (jE ps c x t w y h (some (dLs acc)) (some (dW l)) g f d)=some (jE ps c x t w y h (some (dLs acc)) (some (dW l)) (some (.int (p.1:Int))) (some (.int (p.2:Int))) d) from rfl];dsimp only;rw[b];dsimp only;rw[q,zI];rfl
theorem Q4(G:LnF w y Ln)(ps:List Pt2)(a:List LT)(x t:Int)(j:Option D):∀(rows:List (List LT)) (acc:List (List LT)) (i g d c:Option D) (O:ak),(∀l∈rows,(∀x∈l,OkL x)/\l.length<=200)->acc.length+1000 * rows.length<=90000 ->
  ∃u r n m J,bK (mgN 11) u9 (rows.map dW) (jE ps a x t w y j (some (dLs acc)) i g d c) O=.nx (jE ps a x t w y j (some (dLs (acc++rows.flatMap Ln))) u r n m) J/\Kp O J
 | [],acc,i,g,d,c,O,_,_=>⟨i,g,d,c,O,by rw[zO,List.flatMap_nil,zH];rfl,Kp.rfl'⟩
 |l::rows,acc,i,g,d,c,O,h,ha=>by
  rw[zw] at ha;obtain⟨h1,h2⟩:=h l zp;obtain⟨I,B,e⟩:=G.ok l h1 h2;obtain⟨z,f,R⟩:=B.law O;have hlen:=B.len;obtain⟨r,n,m,q⟩:=Q3 (y:=y) G.hw.1 ps a x t j h2 z I acc g d c (by omega);rw[<-e] at q
  have b:u9 (jE ps a x t w y j (some (dLs acc)) (some (dW l)) g d c) O=.nx (jE ps a x t w y j (some (dLs (acc++Ln l))) (some (dW l)) r n m) z:=by
   unfold u9
   have it:bY (aH lB (aj (aa 11) (aj (aa 7) (aj (aa 8) aq)))) (jE ps a x t w y j (some (dLs acc)) (some (dW l)) g d c) O=.ok (I.map dS) z:=by
    rw[BP,(bz (maS (x:=dW l) rfl (maS (x:=.int w) rfl (ma1 (x:=.str y) rfl)))).trans f,aN];rfl
   rw[gO,it,gP,q]
  obtain⟨u,F,E,C,T,L,Q⟩:=Q4 G ps a x t j rows (acc++Ln l) (some (dW l)) r n m z (λP H=>h P (zt _ H)) (by
   have:(Ln l).length<=201:=(G.ne h1 h2).2.1
   rw[zn]
   omega)
  refine⟨u,F,E,C,T,?_,R.tr Q⟩;rw[ze];unfold bK;rw[show mgN 11 (dW l) (jE ps a x t w y j (some (dLs acc)) i g d c)=some (jE ps a x t w y j (some (dLs acc)) (some (dW l)) g d c) from rfl];dsimp only;rw[b];dsimp only;rw[L,List.flatMap_cons,zI]
theorem Qpw(G:LnF w y Ln)(ps:List Pt2)(X:ps.length<=4)(R:∀p∈ps,POk p)(b:List LT)(h1:∀x∈b,OkL x)(h2:b.length<=200)(x:Int)(t:Nat)(O:ak):
  ∃d,mW [.lst (ps.map dP),dW b,rm x t w y] O=.ok (dLs (b7 t (eE Ln ps b))) d/\Kp O d:=by
 obtain⟨rows,c⟩:∃rows:List (List LT),rows=ps.map (·.1)++(if b=[] then[] else[b]):=⟨_,rfl⟩;have P:sX (mG (aa 2)) (gw 6 (cM (mgN 3) (cM (mgN 4) (cM (mgN 5) (cM (mgN 6) (cM (mgN 7) (cM (mgN 8) ir))))))) [some (.lst (ps.map dP)),some (dW b),some (rm x t w y),none,none,none,none,none,none,none,none,none,none,none,none] O=.nx (jE ps b x t w y none none none none none none) O:=rfl
 have F:=kW (g:=mgN 0) (t:=cQ) (m:=ao gIx (aa 0) (mC (.int 0))) (λρ=>∃a,ρ=[a]) dP (λp=>dW p.1) ps [none] O [] ⟨_,rfl⟩ (by
  rintro p E ρ ⟨a,rfl⟩
  exact⟨[some (dP p)],rfl,⟨_,rfl⟩,rfl,bx (x:=dP p) (y:=.int 0) (z:=dW p.1) rfl rfl rfl⟩)
 rw[zD] at F
 have L:aF 9 (c7 (bY (aa 0)) 1 [] (mgN 0) cQ (ao gIx (aa 0) (mC (.int 0)))) (jE ps b x t w y none none none none none none) O=.nx (jE ps b x t w y (some (dLs (ps.map (·.1)))) none none none none none) O:=by
  unfold dLs;rw[zP];exact bw (lG (own:=1) (cap:=[]) (fW (m:=aa 0) (l:=ps.map dP) rfl) (by rw[zd];omega) (ρ0:=[none]) rfl F)
 have u:aJ (ao gNe (aa 1) (bI aq)) (jE ps b x t w y (some (dLs (ps.map (·.1)))) none none none none none) O=.ok (!decide (b=[])) O:=by
  refine fB (bx (x:=dW b) (y:=.lst []) rfl rfl ?_);unfold dW;rw[cT,cT,BX,ym b h1,show okE (.lst [])=true from rfl,Bool.and_self,if_pos rfl]
  cases b with
  |nil=>rfl
  |cons a r=>rfl
 have J:bc (aJ (ao gNe (aa 1) (bI aq))) (aF 9 (ao aZ (aa 9) (bI (aj (aa 1) aq)))) bj (jE ps b x t w y (some (dLs (ps.map (·.1)))) none none none none none) O=.nx (jE ps b x t w y (some (dLs rows)) none none none none none) O:=by
  by_cases h0:b=[]
  ·rw[zj h0] at u;rw[dh u,c,if_pos h0,zH];rfl
  ·rw[zf h0] at u;rw[dU u,c,if_neg h0];refine bw (bx (x:=dLs (ps.map (·.1))) (y:=.lst [dW b]) rfl rfl ?_);unfold dLs;rw[cT,cT,Ly,if_pos (by rw[zd,zd];show ps.length+1<=_;omega),zK];rfl
 have I:aF 10 (bI aq) (jE ps b x t w y (some (dLs rows)) none none none none none) O=.nx (jE ps b x t w y (some (dLs rows)) (some (dLs [])) none none none none) O:=bw rfl
 have W:rows.length<=5:=by
  rw[c,zn,zd]
  split
  ·rw[zU];omega
  ·rw[zV];omega
 obtain⟨n,j,i,h,d,q,k⟩:=Q4 G ps b x t (some (dLs rows)) rows [] none none none none O (λl f=>by
  rw[c] at f
  rcases zz.mp f with f | f
  ·obtain⟨p,E,rfl⟩:=zx.mp f
   have:=(R p E).1
   exact⟨this.ok,by have:=this.le;omega⟩
  ·by_cases h0:b=[]
   ·rw[if_pos h0] at f;exact nomatch f
   ·rw[if_neg h0] at f;rw[zk.mp f]
    exact⟨h1,h2⟩) (by rw[zU];omega)
 have T:rows.flatMap Ln=eE Ln ps b:=by
  unfold eE gn;rw[c,List.flatMap_append,List.flatMap_map]
  by_cases h0:b=[]
  ·rw[if_pos h0,if_pos h0];rfl
  ·rw[if_neg h0,if_neg h0,List.flatMap_cons,List.flatMap_nil,zH]
 rw[zD,T] at q
 have B:cA (bY (aa 9)) (mgN 11) u9 (jE ps b x t w y (some (dLs rows)) (some (dLs [])) none none none none) O=.nx (jE ps b x t w y (some (dLs rows)) (some (dLs (eE Ln ps b))) n j i h) d:=by
  rw[gO,fW (l:=rows.map dW) rfl,gP,q]
 refine⟨d,?_,k⟩
 have H:mSl (aa 10) (moS (aY pI (aj (mC (.int 0)) (aj (ao dB (aY bT (aj (aa 10) aq)) (aa 6)) aq)))) moN (jE ps b x t w y (some (dLs rows)) (some (dLs (eE Ln ps b))) n j i h) d=.ok (dLs (b7 t (eE Ln ps b))) d:=by
  have ln:=qQ (m:=aa 10) (ρ:=jE ps b x t w y (some (dLs rows)) (some (dLs (eE Ln ps b))) n j i h) (O:=d) (l:=(eE Ln ps b).map dW) rfl;rw[zd] at ln;have Q:=qZ ln (show aa 6 _ _=.ok (.int (t:Int)) _ from rfl);have C:=lE (g:=pI) (maS (a:=mC (.int 0)) (x:=.int 0) rfl (ma1 Q)) Z0;rw[show(if((eE Ln ps b).length:Int) - (t:Int)>0 then((eE Ln ps b).length:Int) - (t:Int) else 0)=(((eE Ln ps b).length - t:Nat):Int) by split<;>omega] at C;rw[qe,show aa 10 (jE ps b x t w y (some (dLs rows)) (some (dLs (eE Ln ps b))) n j i h) d=.ok (.lst ((eE Ln ps b).map dW)) d from rfl,aN,oF,C,aN,oA,aN,vW,aN,cT,qg,NQ,dR,<-List.map_drop]
  rfl
 have U:mW [.lst (ps.map dP),dW b,rm x t w y] O=bu (xT [some (.lst (ps.map dP)),some (dW b),some (rm x t w y),none,none,none,none,none,none,none,none,none,none,none,none] O):=by
  unfold mW;rw[fQ];rfl
 rw[U];unfold xT;unfold u9 gLH u6 at B;rw[sq P,sq L,sq J,sq I,sq B,dX H];rfl
end
theorem Q5{α:Type}{g:MG}{t:L2.M Bool}{m:L2.M D}(c:az->Prop)(f h:α->D)(xs:List α)(O:ak)(n:Nat)(d:O[n]?=some (.ml (xs.map f)))
  (i:∀x∈xs,∀ρ,c ρ->∃a,g (f x) ρ=some a/\c a/\t a O=.ok true O/\m a O=.ok (h x) O):∀(k:Nat) (ρ:az) (acc:List D),k<=xs.length->c ρ->jJ n xs.length g t m k ρ O acc=.ok (acc++(xs.drop (xs.length - k)).map h) O
 | 0,ρ,acc,_,_=>by
  unfold jJ;rw[d];dsimp only;rw[if_pos (zd _),Nat.sub_zero,List.drop_length,zO,zH]
 |k+1,ρ,acc,hk,hp=>by
  have b:xs.length - (k+1)<xs.length:=by omega
  unfold jJ;rw[d];dsimp only;rw[zF,zv b,Option.map_some];dsimp only;obtain⟨a,q,h1,l,j⟩:=i _ (jq b) ρ hp;rw[q];dsimp only;rw[l];dsimp only;rw[j];dsimp only;rw[Q5 c f h xs O n d i k a _ (by omega) h1,zI,List.drop_eq_getElem_cons b,ze,show xs.length - (k+1)+1=xs.length - k by omega];rfl
theorem Qyx(r:List LT)(w:List Nat)(h:∀x∈r,OkL x)(hw:w=HH\/w=HJ):dg (dP (r,w))=true/\(toP (dP (r,w))).canLay0=true/\(toP (dP (r,w))).depth<=10:=by
 have g:∀c∈w,c<1114112:=by
  rcases hw with rfl | rfl
  ·decide
  ·decide
 have lay:∀d∈(r.map dL).map toP,d.canLay0=true/\d.depth<=5:=λd hd=>by
  obtain⟨f,a,rfl⟩:=zx.mp hd;obtain⟨x,b,rfl⟩:=zx.mp a;exact(G6 (h x b)).2
 refine⟨?_,?_,?_⟩
 ·show dg (.tup [.lst (r.map dL),.str w])=true;rw[dg]
  refine ue λd hd=>?_
  rcases zo.mp hd with rfl | hd
  ·rw[dg]
   exact ue λd hd=>by
    obtain⟨x,b,rfl⟩:=zx.mp hd;rfl
  ·rw[zk.mp hd];rfl
 ·show PyData.canLayAll0 (fK [.lst (r.map dL),.str w])=true;rw[mQ]
  refine sy λd hd=>?_
  obtain⟨f,a,rfl⟩:=zx.mp hd
  rcases zo.mp a with rfl | a
  ·show PyData.canLayAll0 (fK (r.map dL))=true;rw[mQ]
   exact sy λd hd=>(lay d hd).1
  ·rw[zk.mp a];exact wu g
 ·show PyData.depthAll (fK [.lst (r.map dL),.str w])+1<=10;rw[mQ]
  have:=sE (n:=8) (ds:=[D.lst (r.map dL),.str w].map toP) λd hd=>by
   obtain⟨f,a,rfl⟩:=zx.mp hd
   rcases zo.mp a with rfl | a
   ·show PyData.depthAll (fK (r.map dL))+1<=8;rw[mQ]
    have:=sE λd hd=>(lay d hd).2
    omega
   ·rw[zk.mp a];show PyData.depth (.str (S w))<=8;simp[PyData.depth]
  omega
theorem QxK(ps:List Pt2)(h:∀p∈ps,POk p):okE (.lst (ps.map dP))=true:=wk (n:=10) (by decide) λd hd=>by
 obtain⟨p,a,rfl⟩:=zx.mp hd;exact Qyx p.1 p.2 (h p a).1.ok (h p a).2
theorem Qub(R:List (List LT))(h:∀r∈R,∀x∈r,OkL x):okE (dLs R)=true:=wk (n:=10) (by decide) λd hd=>by
 obtain⟨r,b,rfl⟩:=zx.mp hd
 have lay:∀d∈(r.map dL).map toP,d.canLay0=true/\d.depth<=5:=λd hd=>by
  obtain⟨f,c,rfl⟩:=zx.mp hd;obtain⟨x,a,rfl⟩:=zx.mp c;exact(G6 (h r b x a)).2
 refine⟨?_,?_,?_⟩
 ·show dg (.lst (r.map dL))=true;rw[dg]
  exact ue λd hd=>by
   obtain⟨x,a,rfl⟩:=zx.mp hd;rfl
 ·show PyData.canLayAll0 (fK (r.map dL))=true;rw[mQ]
  exact sy λd hd=>(lay d hd).1
 ·show PyData.depthAll (fK (r.map dL))+1<=10;rw[mQ]
  have:PyData.depthAll ((r.map dL).map toP)<=5:=sE λd hd=>(lay d hd).2
  omega
theorem Qt9(ps:List Pt2)(h:ps.length<=4)(O:ak):qO [.lst (ps.map dP)] O=.ok (.lst (ps.map dP)) O:=by
 have c:=kW (g:=gw 2 (cM (mgN 0) (cM (mgN 1) ir))) (t:=cQ) (m:=cG (aj (aY gD (aj (aa 0) aq)) (aj (aa 1) aq))) (λρ=>∃a b,ρ=[a,b]) dP dP ps [none,none] O [] ⟨_,_,rfl⟩ (by
  rintro p hp ρ ⟨a,b,rfl⟩
  exact⟨[some (dW p.1),some (.str p.2)],rfl,⟨_,_,rfl⟩,rfl,jx (xs:=[dW p.1,.str p.2]) (maS (yu (m:=aa 0) (d:=dW p.1) (l:=p.1.map dL) rfl rfl) (ma1 rfl)) (show 2<=1000000 by decide)⟩)
 rw[zD] at c
 have f:qO [.lst (ps.map dP)] O=bu (xX [some (.lst (ps.map dP))] O):=by
  unfold qO;rw[fQ];rfl
 rw[f];unfold xX;rw[dX (lG (own:=2) (cap:=[]) (fW (m:=aa 0) (l:=ps.map dP) rfl) (by rw[zd];omega) (ρ0:=[none,none]) rfl c)];rfl
theorem Q6{i:Nat}{ms:MS}{ρ:az}{O:ak}{l:List D}{d d2:D}(h:ρ[i]?=some (some (.lst l)))(h0:ρ[0]?=some (some d))(h2:ρ[2]?=some (some d2)):mj i [0,2] ms ρ O=ms ρ O:=by
 unfold mj;rw[h];dsimp only;rw[if_pos];rw[List.all_cons,List.all_cons,h0,h2];rfl
theorem Q7{m:L2.M D}{g:MG}{b:MS}{ρ:az}{O:ak}{ds:List D}(h:m ρ O=.ok (.lst ds) O):mF m g b ρ O=bK g b ds ρ O:=by
 unfold mF;rw[h]
theorem Q8{t:L2.M Bool}{a b:MS}{ρ:az}{O c:ak}(h:t ρ O=.ok false c):bc t a b ρ O=b ρ c:=by
 rw[jL,h,jM,if_neg zh]
theorem Q9:dO "list" "list" = true:=by decide
theorem Qzu:dO "tuple" "tuple" = true:=by decide
def Hld(O:ak):Nat->List (List LT)->Prop
 | _,[]=>True
 |n,l::B=>O[n]?=some (.ml (l.map dL))/\l.length<=1000/\Hld O (n+1) B
theorem Hld.mls(a:ak):∀(B:List (List LT)) (E:ak),(∀l∈B,l.length<=1000)->Hld ((a++E)++mls B) (a++E).length B
 | [],_,_=>trivial
 |l::B,E,h=>by
  have b:=Hld.mls a B (E++[.ml (l.map dL)]) λr c=>h r (zt _ c)
  refine⟨?_,h l zp,?_⟩
  ·rw[zC (zb _),Nat.sub_self];rfl
  ·rw[<-zI,zI (a++E),show[Ob.ml (l.map dL)]++K63.mls B=K63.mls (l::B) from rfl,zn (as:=a++E)] at b;exact b
theorem Hld.kp{O a:ak}(k:Kp O a):∀{B:List (List LT)}{n:Nat},Hld O n B->Hld a n B
 | [],_,_=>trivial
 | _::_,_,⟨h1,h2,h3⟩=>⟨k _ _ h1,h2,Hld.kp k h3⟩
theorem Hld.set{O:ak}{x:Ob}{m:Nat}:∀{B:List (List LT)}{n:Nat},m<n->Hld O n B->Hld (O.set m x) n B
 | [],_,_,_=>trivial
 | _::_,n,hm,⟨h1,h2,h3⟩=>⟨by rw[zm (by omega)];exact h1,h2,Hld.set (by omega) h3⟩
theorem Ra(O:ak)(l:List LT):(l.map dL).map (cR O 2)=l.map dL:=by
 rw[zP];rfl
theorem Hld.der{O:ak}:∀{B:List (List LT)}{n:Nat},Hld O n B->(obs n B.length).map (cR O 3)=B.map dW
 | [],_,_=>rfl
 |l::B,n,⟨h1,h2,h3⟩=>by
  show cR O 3 (.ob n)::(obs (n+1) B.length).map (cR O 3)=_;rw[Hld.der h3];unfold cR;rw[h1];dsimp only;rw[Ra];rfl
theorem Quc(O:ak)(B:List (List LT)):cR O 4 (dLs B)=dLs B:=by
 show D.lst ((B.map dW).map (cR O 3))=_;unfold dLs;rw[zP];refine congrArg D.lst (jc λl _=>?_);show D.lst ((l.map dL).map (cR O 2))=_;rw[Ra];rfl
def rF:MS:=(bc (dJ (dM (cz (eZ "list" (aa 6)))) (dM (cz (aY tH (aj (oh (aa 6) 1 [] (mgN 0) cQ (eZ "tuple" (aa 0))) aq))))) (aV (mC (.bl false))) bj)
def rG:MS:=(tR (aa 6) (cG (aj (mC (.str [97])) (aj (mC (.str [46])) (aj (mC (.str [46])) (aj (mC (.int 0)) aq))))))
def rE(P R M F:D)(a:List LT)(b:Option D):az:=[some P,some R,some M,some P,some (dW a),some F,b]
theorem Rb:∀l:List LT,kE (l.map λ_=>D.bl true)=some (l.map λ_=>true)
 | []=>rfl
 |x::l=>by
  rw[ze,ze];unfold kE;rw[Rb l];rfl
theorem QwY{O:ak}{n:Nat}{l:List LT}(h:O[n]?=some (.ml (l.map dL)))(q:l.length<=1000)(P R M F:D)(c:List LT):rF (rE P R M F c (some (.ob n))) O=.nx (rE P R M F c (some (.ob n))) O:=by
 have i:bG O (.ob n)=.lst (l.map dL):=by
  unfold bG;dsimp only;rw[h]
 have f:dM (cz (eZ "list" (aa 6))) (rE P R M F c (some (.ob n))) O=.ok false O:=Hh (by
  have:=Hi (n:="list") (m:=aa 6) (ρ:=rE P R M F c (some (.ob n))) (O:=O) (d:=.ob n) (t:="list") rfl (by rw[i];rfl)
  rwa [Q9] at this)
 have cl:=Q5 (g:=mgN 0) (t:=cQ) (m:=eZ "tuple" (aa 0)) (λρ=>∃a,ρ=[a]) dL (λ_=>D.bl true) l O n h (by
  rintro x hx ρ ⟨a,rfl⟩;refine⟨[some (dL x)],rfl,⟨_,rfl⟩,rfl,?_⟩
  have:=Hi (n:="tuple") (m:=aa 0) (ρ:=[some (dL x)]) (O:=O) (d:=dL x) (t:="tuple") rfl rfl
  rwa [Qzu] at this) l.length [none] [] (zb _) ⟨_,rfl⟩
 rw[Nat.sub_self,List.drop_zero,zD] at cl
 have co:oh (aa 6) 1 [] (mgN 0) cQ (eZ "tuple" (aa 0)) (rE P R M F c (some (.ob n))) O=.ok (.lst (l.map λ_=>D.bl true)) O:=by
  unfold oh;rw[show aa 6 (rE P R M F c (some (.ob n))) O=.ok (.ob n) O from rfl,aN];dsimp only;rw[h];dsimp only;rw[zd,if_pos (by omega),show iu 1 [] (rE P R M F c (some (.ob n)))=[none] from rfl,cl];rfl
 have j:aY tH (aj (oh (aa 6) 1 [] (mgN 0) cQ (eZ "tuple" (aa 0))) aq) (rE P R M F c (some (.ob n))) O=.ok (.bl true) O:=by
  refine lE (ma1 co) ?_;show(kE (l.map λ_=>D.bl true)).map (λbs=>D.bl (bs.all id))=_;rw[Rb,Option.map_some];refine congrArg (λb=>some (D.bl b)) ?_;rw[List.all_map]
  exact jd.mpr λ_ _=>rfl
 unfold rF;rw[dh (or_f f (Hh j))];rfl
theorem Rc(P R M F:D)(a:List LT)(O:ak):∀(B:List (List LT)) (n:Nat) (c:Option D),Hld O n B->∃b,bK (mgN 6) rF (obs n B.length) (rE P R M F a c) O=.nx (rE P R M F a b) O
 | [],n,c,_=>⟨c,rfl⟩
 |l::B,n,c,⟨h1,h2,h3⟩=>by
  obtain⟨b,q⟩:=Rc P R M F a O B (n+1) (some (.ob n)) h3;refine⟨b,?_⟩;show bK (mgN 6) rF (.ob n::obs (n+1) B.length) _ O=_;unfold bK;rw[show mgN 6 (.ob n) (rE P R M F a c)=some (rE P R M F a (some (.ob n))) from rfl];dsimp only;rw[QwY h1 h2];exact q
theorem Rf(P R M F:D)(a:List LT):∀(B:List (List LT)) (n:Nat) (d:Option D) (O:ak),Hld O n B->∃c f,bK (mgN 6) rG (obs n B.length) (rE P R M F a d) O=.nx (rE P R M F a c) f
 | [],n,d,O,_=>⟨d,O,rfl⟩
 |l::B,n,d,O,⟨h1,h2,h3⟩=>by
  have b:rG (rE P R M F a (some (.ob n))) O=.nx (rE P R M F a (some (.ob n))) (O.set n (.ml (l.map dL++[.tup [.str [97],.str [46],.str [46],.int 0]]))):=by
   unfold rG tR;rw[show aa 6 (rE P R M F a (some (.ob n))) O=.ok (.ob n) O from rfl];dsimp only;rw[h1];dsimp only;rw[jx (xs:=[.str [97],.str [46],.str [46],.int 0]) (maS rfl (maS rfl (maS rfl (ma1 rfl)))) (show 4<=1000000 by decide)];dsimp only;rw[h1];dsimp only;rw[if_pos (by rw[zd];omega)]
  obtain⟨c,f,q⟩:=Rf P R M F a B (n+1) (some (.ob n)) _ (h3.set (x:=.ml (l.map dL++[.tup [.str [97],.str [46],.str [46],.int 0]])) (je n));refine⟨c,f,?_⟩;show bK (mgN 6) rG (.ob n::obs (n+1) B.length) _ O=_;unfold bK;rw[show mgN 6 (.ob n) (rE P R M F a d)=some (rE P R M F a (some (.ob n))) from rfl];dsimp only;rw[b];exact q
theorem QvM{w:Int}{y:List Nat}(hw:2<=w/\w<=40)(hy:Wy4 y)(ps:List Pt2)(E:ps.length<=4)(u:∀p∈ps,POk p)(a:List LT)(q:Rw a)(x:Int)(t:Nat)(ht:0<t)(O:ak):∃O',mY [.lst (ps.map dP),dW a,rm x t w y] O=.ok (.bl true) O':=by
 obtain⟨Ln,G⟩:=LnF.ex hw hy;have h1:=q.ok
 have h2:a.length<=200:=by have:=q.le;omega
 obtain⟨b,f1,k1⟩:=QwU G ps E u a h1 h2 x t ht O;obtain⟨B,T⟩:∃B,B=b7 t (eE Ln ps a):=⟨_,rfl⟩;rw[<-T] at f1
 have J:∀l∈B,(∀c∈l,OkL c)/\l.length<=200:=λl L=>by
  rw[T] at L
  have:=jr L
  unfold eE gn at this
  rcases zz.mp this with z | z
  ·obtain⟨p,hp,hz⟩:=List.mem_flatMap.mp z;exact(G.ne (u p hp).1.ok (by have:=(u p hp).1.le;omega)).2.2 l hz
  ·by_cases h0:a=[]
   ·rw[if_pos h0] at z;exact nomatch z
   ·rw[if_neg h0] at z;exact(G.ne h1 h2).2.2 l z
 have Q:=Hld.mls b B [] λl L=>by have:=(J l L).2;omega
 rw[zH] at Q;obtain⟨P,H⟩:∃P,P=D.lst (ps.map dP):=⟨_,rfl⟩;obtain⟨M,R⟩:∃M,M=rm x t w y:=⟨_,rfl⟩;obtain⟨C,f2,Z⟩:=Qpw G ps E u a h1 h2 x t (b++mls B);rw[<-T] at f2;have s3:aF 3 (aH qO (aj (aa 0) aq)) [some P,some (dW a),some M,none,none,none,none] O=.nx [some P,some (dW a),some M,some P,none,none,none] O:=bw ((bz (ma1 (x:=P) rfl)).trans (by rw[H];exact Qt9 ps E O));have s4:aF 4 (aY gD (aj (aa 1) aq)) [some P,some (dW a),some M,some P,none,none,none] O=.nx [some P,some (dW a),some M,some P,some (dW a),none,none] O:=bw (yu (m:=aa 1) (d:=dW a) (l:=a.map dL) rfl rfl)
 obtain⟨F,j⟩:∃F,F=D.lst (obs b.length B.length):=⟨_,rfl⟩
 have s5:aF 5 (aH qH (aj (aa 3) (aj (aa 4) (aj (aa 2) aq)))) [some P,some (dW a),some M,some P,some (dW a),none,none] O=.nx (rE P (dW a) M F a none) (b++mls B):=by
  refine oV ((bz (maS (x:=P) rfl (maS (x:=dW a) rfl (ma1 (x:=M) rfl)))).trans ?_);rw[H,R,j];exact f1
 have i:=QxK ps u;have h:=ym a h1
 have W:∀(O:ak) (f:Option D) (F:D),ao gEq (aa 3) (aa 0) (rE P (dW a) M F a f) O=.ok (.bl true) O:=λO f F=>bx (x:=P) (y:=P) rfl rfl (by rw[H,cT,ud,i,Bool.and_self,if_pos rfl,uf i])
 have eqR:∀(O:ak) (f:Option D) (F:D),ao gEq (aa 4) (aa 1) (rE P (dW a) M F a f) O=.ok (.bl true) O:=λO f F=>bx (x:=dW a) (y:=dW a) rfl rfl (by unfold dW;rw[cT,ud,h,Bool.and_self,if_pos rfl,uf h])
 have s6:bc (dJ (aJ (ao gNe (aa 3) (aa 0))) (dJ (aJ (ao gNe (aa 4) (aa 1))) (dM (cz (eZ "list" (aa 5)))))) (aV (mC (.bl false))) bj (rE P (dW a) M F a none) (b++mls B)=.nx (rE P (dW a) M F a none) (b++mls B):=by
  have a1:aJ (ao gNe (aa 3) (aa 0)) (rE P (dW a) M F a none) (b++mls B)=.ok false (b++mls B):=fB (bx (x:=P) (y:=P) rfl rfl (by rw[H,cT,BX,i,Bool.and_self,if_pos rfl,uf i];rfl));have a2:aJ (ao gNe (aa 4) (aa 1)) (rE P (dW a) M F a none) (b++mls B)=.ok false (b++mls B):=fB (bx (x:=dW a) (y:=dW a) rfl rfl (by unfold dW;rw[cT,BX,h,Bool.and_self,if_pos rfl,uf h];rfl))
  have a3:dM (cz (eZ "list" (aa 5))) (rE P (dW a) M F a none) (b++mls B)=.ok false (b++mls B):=Hh (by
   have:=Hi (n:="list") (m:=aa 5) (ρ:=rE P (dW a) M F a none) (O:=b++mls B) (d:=F) (t:="list") rfl (by rw[j];rfl)
   rwa [Q9] at this)
  rw[dh (or_f a1 (or_f a2 a3))];rfl
 obtain⟨f,q1⟩:=Rc P (dW a) M F a (b++mls B) B b.length none Q
 have Y:mj 5 [0,2] (mF (aa 5) (mgN 6) rF) (rE P (dW a) M F a none) (b++mls B)=.nx (rE P (dW a) M F a f) (b++mls B):=by
  rw[Q6 (l:=obs b.length B.length) (d:=P) (d2:=M) (by rw[j];rfl) rfl rfl,Q7 (ds:=obs b.length B.length) (by rw[j];rfl),q1]
 have t8:aJ (nZ true 4 (aa 5) (aH mW (aj (aa 0) (aj (aa 1) (aj (aa 2) aq))))) (rE P (dW a) M F a f) (b++mls B)=.ok false C:=by
  have e1:nZ true 4 (aa 5) (aH mW (aj (aa 0) (aj (aa 1) (aj (aa 2) aq)))) (rE P (dW a) M F a f) (b++mls B)=.ok (.bl false) C:=by
   have d1:cR C 4 F=dLs B:=by
    rw[j];show D.lst ((obs b.length B.length).map (cR C 3))=_;rw[(Q.kp Z).der];rfl
   have ok:=Qub B λr u=>(J r u).1
   unfold nZ;rw[show aa 5 (rE P (dW a) M F a f) (b++mls B)=.ok F (b++mls B) from rfl,aN,(bz (maS (x:=P) rfl (maS (x:=dW a) rfl (ma1 (x:=M) rfl)))),H,R,f2,aN,d1,Quc,ok,Bool.and_self,if_pos rfl,uf ok];rfl
  rw[iz,e1];rfl
 have s8:bc (aJ (nZ true 4 (aa 5) (aH mW (aj (aa 0) (aj (aa 1) (aj (aa 2) aq)))))) (aV (mC (.bl false))) bj (rE P (dW a) M F a f) (b++mls B)=.nx (rE P (dW a) M F a f) C:=by
  rw[Q8 t8];rfl
 obtain⟨g,I,q2⟩:=Rf P (dW a) M F a B b.length f C (Q.kp Z)
 have X:mj 5 [0,2] (mF (aa 5) (mgN 6) rG) (rE P (dW a) M F a f) C=.nx (rE P (dW a) M F a g) I:=by
  rw[Q6 (l:=obs b.length B.length) (d:=P) (d2:=M) (by rw[j];rfl) rfl rfl,Q7 (ds:=obs b.length B.length) (by rw[j];rfl),q2]
 have U:vM 5 (rE P (dW a) M F a g) I=.nx (rE P (dW a) M (.lst []) a g) I:=by
  rw[j];rfl
 refine⟨I,?_⟩
 have c0:mY [P,dW a,M] O=bu (xZ [some P,some (dW a),some M,none,none,none,none] O):=by
  unfold mY;rw[fQ];rfl
 rw[<-H,<-R,c0];unfold xZ;unfold rF at Y;unfold rG at X;rw[sq s3,sq s4,sq s5,sq s6,sq Y,sq s8,sq X,sq U,dX ((Qq (W I g (.lst []))).trans (eqR I g (.lst [])))];rfl
theorem Rg(v:Int)(O:ak):∃(x:Int) (t:Nat) (w:Int) (y:List Nat),0<t/\(2<=w/\w<=40)/\Wy4 y/\mX [.int v] O=.ok (rm x t w y) O:=by
 have P:=rz v 1 (by decide) (by decide) O;have L:=rz v 2 (by decide) (by decide) O
 obtain⟨y,F,H⟩:∃q,Wy4 q/\gIx (.lst [.str [99,117,116],.str [99,101,108,108,115],.str [119,111,114,100,115],.str [101,118,101,110]]) (.int (v % 4))=some (.str q):=by
  obtain⟨c,d,e⟩:=ixL (l:=[.str [99,117,116],.str [99,101,108,108,115],.str [119,111,114,100,115],.str [101,118,101,110]]) (v:=v) (n:=4) rfl (by decide)
  rcases zo.mp d with rfl | d
  ·exact⟨_,.cut,e⟩
  rcases zo.mp d with rfl | d
  ·exact⟨_,.cells,e⟩
  rcases zo.mp d with rfl | d
  ·exact⟨_,.words,e⟩
  rcases zo.mp d with rfl | d
  ·exact⟨_,.even,e⟩
  ·exact nomatch d
 have B:aF 1 (ao gIx (bI (aj (mC (.str [99,117,116])) (aj (mC (.str [99,101,108,108,115])) (aj (mC (.str [119,111,114,100,115])) (aj (mC (.str [101,118,101,110])) aq))))) (ao bH (aa 0) (mC (.int 4)))) [some (.int v),none,none] O=.nx [some (.int v),some (.str y),none] O :=
  bw (bx (x:=.lst [.str [99,117,116],.str [99,101,108,108,115],.str [119,111,114,100,115],.str [101,118,101,110]]) rfl (bx (x:=.int v) (y:=.int 4) (z:=.int (v % 4)) rfl rfl (by rw[cV,cV,mO,if_pos (by decide)])) H)
 have f:∀(ρ:az) (j n:Int),0<=j->j<=1000000->0<n->ρ[0]?=some (some (.int v))->ao bH (aH fj (aj (aa 0) (aj (mC (.int j)) aq))) (mC (.int n)) ρ O=.ok (.int (mix v j % n)) O:=λρ j n h0 h1 h2 h3 =>
  bx ((bz (maS (x:=.int v) (by rw[fL,h3]) (ma1 (x:=.int j) rfl))).trans (rz v j h0 h1 O)) (y:=.int n) rfl (by rw[cV,cV,mO,if_pos h2])
 have u:aF 2 (ao aZ (mC (.int 2)) (ao bH (aH fj (aj (aa 0) (aj (mC (.int 2)) aq))) (mC (.int 8)))) [some (.int v),some (.str y),none] O=.nx [some (.int v),some (.str y),some (.int (2+mix v 2 % 8))] O:=bw (jz (a:=mC (.int 2)) (i:=2) rfl (f _ 2 8 (by decide) (by decide) (by decide) rfl))
 obtain⟨w,hw,r⟩:∃w:Int,(2<=w/\w<=40)/\bc (aJ (ao gEq (ao bH (ao dG (aa 0) (mC (.int 12))) (mC (.int 6))) (mC (.int 5)))) (aF 2 (ao aZ (mC (.int 10)) (ao bH (aH fj (aj (aa 0) (aj (mC (.int 2)) aq))) (mC (.int 29))))) bj [some (.int v),some (.str y),some (.int (2+mix v 2 % 8))] O=.nx [some (.int v),some (.str y),some (.int w)] O:=by
  have fd:=oX (a:=aa 0) (b:=mC (.int 12)) (ρ:=[some (.int v),some (.str y),some (.int (2+mix v 2 % 8))]) (O:=O) (i:=v) (j:=12) rfl rfl (by decide);have E:=bx (g:=bH) (b:=mC (.int 6)) (y:=.int 6) (z:=.int (v / 12 % 6)) fd rfl (by rw[cV,cV,mO,if_pos (by decide)]);have t:=fB (HB (b:=mC (.int 5)) (j:=5) E rfl)
  by_cases h:v / 12 % 6=5
  ·rw[zj h] at t;refine⟨10+mix v 2 % 29,by omega,?_⟩;rw[dU t];exact bw (jz (a:=mC (.int 10)) (i:=10) rfl (f _ 2 29 (by decide) (by decide) (by decide) rfl))
  ·rw[zf h] at t;refine⟨2+mix v 2 % 8,by omega,?_⟩;rw[dh t];rfl
 have C:=bx (g:=bH) (b:=mC (.int 3)) (y:=.int 3) (z:=.int (v / 4 % 3)) (oX (a:=aa 0) (b:=mC (.int 4)) (ρ:=[some (.int v),some (.str y),some (.int w)]) (O:=O) (i:=v) (j:=4) rfl rfl (by decide)) rfl (by rw[cV,cV,mO,if_pos (by decide)]);have m:=jz (a:=mC (.int 1)) (i:=1) rfl (f [some (.int v),some (.str y),some (.int w)] 1 12 (by decide) (by decide) (by decide) rfl);obtain⟨t,G,I⟩:∃t:Nat,0<t/\1+mix v 1 % 12=(t:Int):=⟨(1+mix v 1 % 12).toNat,by omega,by omega⟩;rw[I] at m;refine⟨v / 4 % 3,t,w,y,G,hw,F,?_⟩
 have J:mX [.int v] O=bu (xV [some (.int v),none,none] O):=by
  unfold mX;rw[fQ];rfl
 rw[J];unfold xV;rw[sq B,sq u,sq r,dX (jx (xs:=[.str [97],.int 0,.int (v / 4 % 3),.int (t:Int),.int w,.str y]) (maS rfl (maS rfl (maS C (maS m (maS rfl (ma1 rfl)))))) (show 6<=1000000 by decide))];rfl
def vd:MS:=(bc (dM (cz (aH mY (aj (aa 1) (aj (aa 4) (aj (aa 7) aq)))))) (aV (mC (.bl false))) bj)
def zE(X P:D)(v m:Int)(a:List LT)(d c b:Option D):az:=[some X,some P,some (.int v),some (.int m),some (dW a),d,c,b]
def QAm(d:D):Prop:=∃(x:Int) (t:Nat) (w:Int) (y:List Nat),0<t/\(2<=w/\w<=40)/\Wy4 y/\d=rm x t w y
theorem Rh(X:D)(v m:Int)(ps:List Pt2)(n:ps.length<=4)(B:∀p∈ps,POk p)(a:List LT)(i:Rw a)(g c:Option D):∀(ds:List D) (l:Option D) (O:ak),(∀d∈ds,QAm d)->∃j u,bK (mgN 7) vd ds (zE X (.lst (ps.map dP)) v m a g c l) O=.nx (zE X (.lst (ps.map dP)) v m a g c j) u
 | [],l,O,_=>⟨l,O,rfl⟩
 |d::ds,l,O,h=>by
  obtain⟨x,t,w,y,F,hw,E,e⟩:=h d zp;obtain⟨r,f⟩:=QvM hw E ps n B a i x t F O
  obtain⟨j,u,q⟩:=Rh X v m ps n B a i g c ds (some d) r λG z=>h G (zt _ z)
  refine⟨j,u,?_⟩
  have b:vd (zE X (.lst (ps.map dP)) v m a g c (some d)) O=.nx (zE X (.lst (ps.map dP)) v m a g c (some d)) r:=by
   have H:aH mY (aj (aa 1) (aj (aa 4) (aj (aa 7) aq))) (zE X (.lst (ps.map dP)) v m a g c (some d)) O=.ok (.bl true) r:=by
    rw[bz (maS (x:=.lst (ps.map dP)) rfl (maS (x:=dW a) rfl (ma1 (x:=d) rfl))),e];exact f
   have C:dM (cz (aH mY (aj (aa 1) (aj (aa 4) (aj (aa 7) aq))))) (zE X (.lst (ps.map dP)) v m a g c (some d)) O=.ok false r:=by
    unfold dM;rw[ou,H];rfl
   unfold vd;rw[Q8 C];rfl
  unfold bK;rw[show mgN 7 d (zE X (.lst (ps.map dP)) v m a g c l)=some (zE X (.lst (ps.map dP)) v m a g c (some d)) from rfl];dsimp only;rw[b];exact q
theorem Qtq(xs:List Int)(hx:xs.length<=63):∃J,ye [.lst (xs.map D.int)] []=.ok (.bl true) J:=by
 obtain⟨U,Q,hr,eP⟩:=Qv9 xs [];obtain⟨v,Y⟩:=u0 xs 3 [];obtain⟨v0,H⟩:=u0 xs 0 [];obtain⟨v1,G⟩:=u0 xs 1 [];obtain⟨X,hX⟩:∃X,X=D.lst (xs.map D.int):=⟨_,rfl⟩;obtain⟨P,W⟩:∃P,P=D.lst (U.map dP):=⟨_,rfl⟩;rw[<-hX] at eP Y H G ⊢;rw[<-W] at eP;have s1:aF 1 (aH xG (aj (aa 0) (aj (mC (.int 14)) aq))) [some X,none,none,none,none,none,none,none] []=.nx [some X,some P,none,none,none,none,none,none] []:=bw ((bz (maS (x:=X) rfl (ma1 (x:=.int 14) rfl))).trans eP);have s2:aF 2 (aH fV (aj (aa 0) (aj (mC (.int 3)) aq))) [some X,some P,none,none,none,none,none,none] []=.nx [some X,some P,some (.int v),none,none,none,none,none] []:=bw ((bz (maS (x:=X) rfl (ma1 (x:=.int 3) rfl))).trans Y)
 have s3:aF 3 (ao bH (aa 2) (mC (.int 15))) [some X,some P,some (.int v),none,none,none,none,none] []=.nx [some X,some P,some (.int v),some (.int (v % 15)),none,none,none,none] []:=bw (bx (x:=.int v) (y:=.int 15) rfl rfl (by rw[cV,cV,mO,if_pos (by decide)]))
 obtain⟨m,hm,s4⟩:∃m:Nat,m<=80/\bc (aJ (ao gEq (ao bH (ao dG (aa 2) (mC (.int 15))) (mC (.int 6))) (mC (.int 5)))) (aF 3 (ao aZ (mC (.int 40)) (ao bH (ao dG (aa 2) (mC (.int 90))) (mC (.int 41))))) bj [some X,some P,some (.int v),some (.int (v % 15)),none,none,none,none] []=.nx [some X,some P,some (.int v),some (.int (m:Int)),none,none,none,none] []:=by
  have fd:=oX (a:=aa 2) (b:=mC (.int 15)) (ρ:=[some X,some P,some (.int v),some (.int (v % 15)),none,none,none,none]) (O:=[]) (i:=v) (j:=15) rfl rfl (by decide);have md:=bx (g:=bH) (b:=mC (.int 6)) (y:=.int 6) (z:=.int (v / 15 % 6)) fd rfl (by rw[cV,cV,mO,if_pos (by decide)]);have t:=fB (HB (b:=mC (.int 5)) (j:=5) md rfl)
  by_cases h:v / 15 % 6=5
  ·rw[zj h] at t;have R:=oX (a:=aa 2) (b:=mC (.int 90)) (ρ:=[some X,some P,some (.int v),some (.int (v % 15)),none,none,none,none]) (O:=[]) (i:=v) (j:=90) rfl rfl (by decide);have L:=bx (g:=bH) (b:=mC (.int 41)) (y:=.int 41) (z:=.int (v / 90 % 41)) R rfl (by rw[cV,cV,mO,if_pos (by decide)]);have ad:=jz (a:=mC (.int 40)) (i:=40) rfl L;refine⟨(40+v / 90 % 41).toNat,by omega,?_⟩;rw[dU t,show(((40+v / 90 % 41).toNat:Nat):Int)=40+v / 90 % 41 by omega];exact bw ad
  ·rw[zf h] at t;refine⟨(v % 15).toNat,by omega,?_⟩;rw[dh t,show(((v % 15).toNat:Nat):Int)=v % 15 by omega];rfl
 obtain⟨c,I,eR⟩:=QM v m hm [];have s5:aF 4 (aH oO (aj (aa 2) (aj (aa 3) (aj (mC (.int 12)) aq)))) [some X,some P,some (.int v),some (.int (m:Int)),none,none,none,none] []=.nx (zE X P v m c none none none) []:=bw ((bz (maS (x:=.int v) rfl (maS (x:=.int (m:Int)) rfl (ma1 (x:=.int 12) rfl)))).trans eR);obtain⟨n,u,r,f,a1,a2,Z,e0⟩:=Rg v0 [];obtain⟨C,F,E,B,b1,b2,b3,e1⟩:=Rg v1 [];have s6:aF 5 (aH mX (aj (aH fV (aj (aa 0) (aj (mC (.int 0)) aq))) aq)) (zE X P v m c none none none) []=.nx (zE X P v m c (some (rm n u r f)) none none) []:=bw ((bz (ma1 ((bz (maS (x:=X) rfl (ma1 (x:=.int 0) rfl))).trans H))).trans e0)
 have s7:aF 6 (aH mX (aj (aH fV (aj (aa 0) (aj (mC (.int 1)) aq))) aq)) (zE X P v m c (some (rm n u r f)) none none) []=.nx (zE X P v m c (some (rm n u r f)) (some (rm C F E B)) none) []:=bw ((bz (ma1 ((bz (maS (x:=X) rfl (ma1 (x:=.int 1) rfl))).trans G))).trans e1)
 obtain⟨o7,J,q⟩:=Rh X v m U Q hr c I (some (rm n u r f)) (some (rm C F E B)) [rm n u r f,rm C F E B,rm n u r f] none [] (λd hd=>by
  rcases zo.mp hd with rfl | hd
  ·exact⟨n,u,r,f,a1,a2,Z,rfl⟩
  rcases zo.mp hd with rfl | hd
  ·exact⟨C,F,E,B,b1,b2,b3,rfl⟩
  rcases zo.mp hd with rfl | hd
  ·exact⟨n,u,r,f,a1,a2,Z,rfl⟩
  ·exact nomatch hd)
 rw[<-W] at q
 have T:cA (bY (bI (aj (aa 5) (aj (aa 6) (aj (aa 5) aq))))) (mgN 7) vd (zE X P v m c (some (rm n u r f)) (some (rm C F E B)) none) []=.nx (zE X P v m c (some (rm n u r f)) (some (rm C F E B)) o7) J:=by
  rw[gO,fW (l:=[rm n u r f,rm C F E B,rm n u r f]) rfl,gP,q]
 refine⟨J,?_⟩
 have c0:ye [X] []=bu (yc [some X,none,none,none,none,none,none,none] []):=by
  unfold ye;rw[fQ];rfl
 rw[c0];unfold yc;unfold vd at T;rw[sq s1,sq s2,sq s3,sq s4,sq s5,sq s6,sq s7,sq T];rfl
theorem all_mk{l:PySem.W.OpenLaw}{w:World}{K:PySem.W.Frag}{h:Heap}{mg:Str->Option Value}{fa:Addr}(X:K.In h)(G:h.Ns mainGlobals mg)(hfa:mg "law" = some (.ref fa))
  {jX:Addr}
  {HN:Addr}{QxM Ri:Option Addr}{QxS:Array (Option Value)}{QyC Rj Rk Rm HQ Rn:Value}
  {ad_WAYS:Addr}{Ro:Value}{Qwc:Option Addr}{it_WAYS:Array Value}{nn_WAYS:Nat}{Qws:Array (Option Value)}
  (Z_Even:ClsAt K "Even" jX)
  (Qmf:PySem.W.findIn K (.ref jX) "letters" = some none)
  (Qpu:PySem.W.findIn K (.ref jX) "wide" = some none)
  (Ci:Def K mg "width_of" Ce)
  (Ck:Def K mg "cells_of" wz)
  (Cq:Def K mg "is_break" Cm)
  (Cu:Def K mg "reach" Cr)
  (Cy:Def K mg "fitting_ends" Cv)
  (CN:Def K mg "line_ends" CG)
  (CZ:Def K mg "is_whole" CT)
  (De:Def K mg "is_within" Dc)
  (Dj:Def K mg "cost_over" Dh)
  (Dl:Def K mg "least_cost" uv)
  (M_Even_nodes_at:MethAt K jX "nodes_at" "Even.nodes_at" Dm)
  (M_Even_is_end:MethAt K jX "is_end" "Even.is_end" Do)
  (M_Even_cost_to:MethAt K jX "cost_to" "Even.cost_to" Dq)
  (M_Even_moves_from:MethAt K jX "moves_from" "Even.moves_from" wL)
  (Dw:Def K mg "price_nodes" Dv)
  (M_Even_last_at:MethAt K jX "last_at" "Even.last_at" Dz)
  (DP:Def K mg "priced" DK)
  (DW:Def K mg "first_cheapest" wU)
  (M_Even_first_node:MethAt K jX "first_node" "Even.first_node" DX)
  (Eb:Def K mg "way_of" Ea)
  (M_Even___init__:MethAt K jX "__init__" "Even.__init__" Eg)
  (Ej:Def K mg "even" wY)
  (Eo:Def K mg "is_way" Em)
  (Es:Def K mg "next_end" Er)
  (Eu:Def K mg "end_to_end" Et)
  (Ey:Def K mg "fold" Ex)
  (Fi:Def K mg "shown_of" Fg)
  (Fo:Def K mg "folded" xj)
  (Fw:Def K mg "last_lines" xu)
  (Fx:Def K mg "lines_of" xA)
  (FN:Def K mg "_law_cell_at" Fz)
  (FQ:Def K mg "_law_mix" FP)
  (FZ:Def K mg "_law_letters" FT)
  (Gb:Def K mg "_law_parts" Ga)
  (Ge:Def K mg "_law_cells" xH)
  (Gi:Def K mg "_law_bare" Gf)
  (Gm:Def K mg "_law_many" Gj)
  (Gq:Def K mg "_law_onward" Gn)
  (Gu:Def K mg "_law_evenly" Gs)
  (Gw:Def K mg "_law_stretches" Gv)
  (Gy:Def K mg "_law_lines" xR)
  (GD:Def K mg "_law_room" GC)
  (GF:Def K mg "_law_copied" xW)
  (GJ:Def K mg "_law_right" xY)
  (HR:PySem.W.nsIn K mainGlobals "law" = some (some (.ref HN))) (Rq:K.lookup HN=some ⟨QyC,QxM,.func (PySem.W.fnOf "law" "law" (gY jU) (eG jU) (aR jU) .none Rj Rk Rm Ri HQ Rn),QxS⟩) (Qyh:PySem.W.codeIn K HQ "law" = true) (Qzi:PySem.W.keepIn K (.ref HN)=true)
  (B:bM mg)
  (NK:bD K=true)
  (xq:∃u,mg "BROAD" = some u/\RelV (.int 4) u)
  (Ez:∃u,mg "GREATEST_BREADTH" = some u/\RelV (.int 40) u)
  (EY:∃u,mg "LEAST_BREADTH" = some u/\RelV (.int 2) u)
  (qF:∃u,mg "TALL" = some u/\RelV (.int 3) u)
  (Fp:∃u,mg "WAY" = some u/\RelV (.int 5) u)
  (QuC:PySem.W.nsIn K mainGlobals "WAYS" = some (some (.ref ad_WAYS))) (Qtv:K.lookup ad_WAYS=some ⟨Ro,Qwc,.seq it_WAYS nn_WAYS,Qws⟩) (t_c_WAYS:Ro=.type "tuple") (Qtm:it_WAYS.size<=sizeLine) (v_c_WAYS:aU (List.map (λl=>V.str (S l)) [[99,117,116],[99,101,108,108,115],[119,111,114,100,115],[101,118,101,110]]) it_WAYS.toList):
  ∃fd:FuncData,(∀(s:Shared) (v:Value),BindsTo s fd ⟨[v],[]⟩ [("_law_script",v)])/\∀base:Heap,K.In base->base.Ns mainGlobals mg->dI l.prog w K mg base CX0 14 fa fd ["_law_script"] (sp_law K):=by
 have e:=hfa.symm.trans (PySem.W.mg_of X G HR);cases e;have fU:=Z_Even.kf X G Qmf;have kZ:=Z_Even.kf X G Qpu;have Dn:=Z_Even.dm X G M_Even_nodes_at;have Dp:=Z_Even.dm X G M_Even_is_end;have Dr:=Z_Even.dm X G M_Even_cost_to;have Dt:=Z_Even.dm X G M_Even_moves_from;have DG:=Z_Even.dm X G M_Even_last_at;have DY:=Z_Even.dm X G M_Even_first_node;have Eh:=Z_Even.dc X G M_Even___init__;have GR:Def K mg "law" jU:=⟨_,_,PySem.W.mg_of X G HR,Ah (st:=jU) Rq Qyh Qzi⟩;have Ep:Bp K mg "WAYS" [[99,117,116],[99,101,108,108,115],[119,111,114,100,115],[101,118,101,110]]:=⟨ad_WAYS,_,it_WAYS,nn_WAYS,PySem.W.mg_of X G QuC,Qtv,t_c_WAYS,rfl,Qtm,v_c_WAYS⟩
 refine⟨PySem.W.fnOf "law" "law" (gY jU) (eG jU) (aR jU) .none Rj Rk Rm Ri HQ Rn,λs v=>.of_eq rfl,λbase _ _=>?_⟩;have jP:=@Qpr l.prog w K mg base Ci B NK;have CQ:=@Qpj l.prog w K mg base Ck B NK jP;have Cz:=@Qph l.prog w K mg base Cq B NK;have iC:=@Qt2 l.prog w K mg base Cu B NK jP;have CP:=@Ql6 l.prog w K mg base Cy B NK jP Cz;have qw:=@QnY l.prog w K mg base CN B NK CP iC CQ;have Dg:=@Qpi l.prog w K mg base CZ B NK;have Fb:=@Qpa l.prog w K mg base De B NK Dg;have qp:=@Qn6 l.prog w K mg base Dj B NK;have qy:=@Qni l.prog w K mg base Dl B NK qp
 have Dy:=@Qk2 l.prog w K mg base Dn B NK;have lg:=@Qmn l.prog w K mg base Dp B NK fU;have Du:=@QlK l.prog w K mg base Dr B NK fU kZ;have qx:=@QjW l.prog w K mg base Dt B NK fU kZ lg qw Du;have DR:=@Qmq l.prog w K mg base Dw B NK Dy qx lg qy;have DQ:=@QlY l.prog w K mg base DG B NK fU;have Ec:=@Qtd l.prog w K mg base DP B NK DQ DR;have Ef:=@QkH l.prog w K mg base DW B NK qy qp;have Ed:=@QjH l.prog w K mg base DY B NK;have Ek:=@Qr7 l.prog w K mg base Eb B NK Ec Ed lg Ef qx;have El:=@QkU l.prog w K mg base Eh B NK fU kZ;have Fe:=@QwP l.prog w K mg base Ej B NK Ek El
 have Fd:=@QrX l.prog w K mg base Eo B NK Ep;have Ew:=@QpE l.prog w K mg base Es B NK qw iC;have Ff:=@Qnc l.prog w K mg base Eu B NK Ew;have Fq:=@Qvy l.prog w K mg base Ey B NK Ez EY Fb Fd iC Fe Ff;have Ft:=@Qpo l.prog w K mg base Fi B NK iC;have qG:=@QrB l.prog w K mg base Fo B NK xq Fp Fq Ft;have Fy:=@Qnf l.prog w K mg base Fw B NK qF qG;have GP:=@Qpg l.prog w K mg base Fx B NK qF qG Fy;have lr:=@Qmt l.prog w K mg base FN B NK;have iG:=@QqR l.prog w K mg base FQ B NK;have qI:=@Ql9 l.prog w K mg base FZ B NK iG;have GX:=@Qoq l.prog w K mg base Gb B NK lr iG qI
 have qJ:=@Qog l.prog w K mg base Ge B NK;have qL:=@Qpy l.prog w K mg base Gi B NK qJ;have jT:=@Qpm l.prog w K mg base Gm B NK qJ;have qN:=@Qne l.prog w K mg base Gq B NK qL jT;have Gx:=@Qnb l.prog w K mg base Gu B NK qN qL;have Gz:=@Qlf l.prog w K mg base Gw B NK jT Gx qN;have GQ:=@Qo4 l.prog w K mg base Gy B NK Gz jT;have yg:=@QpC l.prog w K mg base GD B NK iG;have GK:=@Qng l.prog w K mg base GF B NK;have GZ:=@Qo8 l.prog w K mg base GJ B NK GK GP GQ;have Qz2:=@Qx8 l.prog w K mg base GR B NK GX lr qI yg GZ;obtain⟨f',fd',hm',hk',hb',F',oc',od',osl',lk'⟩:=Qz2
 have e2:=(PySem.W.mg_of X G HR).symm.trans hm';cases e2;have e3:=Rq.symm.trans lk';cases e3;exact F'.imp (Ys Qtq)
theorem walk{l:PySem.W.OpenLaw}{q:Program}{loose:List Str}{XP:(Str->Option Value)->Heap->Prop}{YP:World->Heap->Prop}{d:DefRec}{K:Params->PySem.W.Frag}(hn:l.most=some 63)(hdf:d.params.defaults=[])
  (hY:∀(w:World) (h:Heap),YP w h->(K w.params).In h)
  (F:∀(w:World) (mg:Str->Option Value) (fa:Addr) (h:Heap),(K w.params).In h->h.Ns mainGlobals mg->mg d.name=some (.ref fa) ->
   ∃fd:FuncData,(∀(s:Shared) (u:Value),BindsTo s fd ⟨[u],[]⟩ [("_law_script",u)])/\∀base:Heap,(K w.params).In base->base.Ns mainGlobals mg->dI l.prog w (K w.params) mg base CX0 14 fa fd ["_law_script"] (sp_law (K w.params))):
  PySem.W.WalkO q loose XP YP l.row.toRowW d [] (λf vs=>PySem.call f vs):=
 L2.walk_ofR (n:=63) (k:=14) (x:="_law_script") (CX:=λ_=>CX0) (sp:=λw=>sp_law (K w.params)) hn (by decide) hdf ⟨rfl,by decide,by decide⟩ hY F (λ_ _ a ns hl ho hS=>⟨a,ns,rfl,hS,hl,ho,λ_=>rfl⟩) λ_ _ _ _ _ z=>z
end K63
open PySem PySem.W PyProof.Rows L2
set_option maxRecDepth 100000 in
set_option maxHeartbeats 0 in
theorem PySem.Challenge.cw_outweave_k63_lines_shown_holds : PySem.Challenge.rw_outweave_k63_lines_shown.Holds := by
 w_on;o_law;k_head;(case hw=>w_witness2)
 k_fill
 refine K63.walk (l:=PySem.Challenge.rw_outweave_k63_lines_shown) rfl rfl (λw h Y=>PySem.W.kIn_of Y) ?F
 case F =>
  intro w mg fa h KX G hmg
  refine' K63.all_mk KX G hmg ⟨?x1,?x2,?x3,?x4,?x5,?x6,?x7⟩ ?x8 ?x9 (mkD KX G ?x10 ?x11 ?x12 ?x13) (mkD KX G ?x14 ?x15 ?x16 ?x17) (mkD KX G ?x18 ?x19 ?x20 ?x21) (mkD KX G ?x22 ?x23 ?x24 ?x25) (mkD KX G ?x26 ?x27 ?x28 ?x29) (mkD KX G ?x30 ?x31 ?x32 ?x33) (mkD KX G ?x34 ?x35 ?x36 ?x37) (mkD KX G ?x38 ?x39 ?x40 ?x41) (mkD KX G ?x42 ?x43 ?x44 ?x45) (mkD KX G ?x46 ?x47 ?x48 ?x49) (mkM ?x50 ?x51 ?x52 ?x53 ?x54) (mkM ?x55 ?x56 ?x57 ?x58 ?x59) (mkM ?x60 ?x61 ?x62 ?x63 ?x64) (mkM ?x65 ?x66 ?x67 ?x68 ?x69) (mkD KX G ?x70 ?x71 ?x72 ?x73) (mkM ?x74 ?x75 ?x76 ?x77 ?x78) (mkD KX G ?x79 ?x80 ?x81 ?x82) (mkD KX G ?x83 ?x84 ?x85 ?x86) (mkM ?x87 ?x88 ?x89 ?x90 ?x91) (mkD KX G ?x92 ?x93 ?x94 ?x95) (mkM ?x96 ?x97 ?x98 ?x99 ?x100) (mkD KX G ?x101 ?x102 ?x103 ?x104) (mkD KX G ?x105 ?x106 ?x107 ?x108) (mkD KX G ?x109 ?x110 ?x111 ?x112) (mkD KX G ?x113 ?x114 ?x115 ?x116) (mkD KX G ?x117 ?x118 ?x119 ?x120) (mkD KX G ?x121 ?x122 ?x123 ?x124) (mkD KX G ?x125 ?x126 ?x127 ?x128) (mkD KX G ?x129 ?x130 ?x131 ?x132) (mkD KX G ?x133 ?x134 ?x135 ?x136) (mkD KX G ?x137 ?x138 ?x139 ?x140) (mkD KX G ?x141 ?x142 ?x143 ?x144) (mkD KX G ?x145 ?x146 ?x147 ?x148) (mkD KX G ?x149 ?x150 ?x151 ?x152) (mkD KX G ?x153 ?x154 ?x155 ?x156) (mkD KX G ?x157 ?x158 ?x159 ?x160) (mkD KX G ?x161 ?x162 ?x163 ?x164) (mkD KX G ?x165 ?x166 ?x167 ?x168) (mkD KX G ?x169 ?x170 ?x171 ?x172) (mkD KX G ?x173 ?x174 ?x175 ?x176) (mkD KX G ?x177 ?x178 ?x179 ?x180) (mkD KX G ?x181 ?x182 ?x183 ?x184) (mkD KX G ?x185 ?x186 ?x187 ?x188) (mkD KX G ?x189 ?x190 ?x191 ?x192) ?x193 ?x194 ?x195 ?x196 ⟨⟨⟨PySem.W.mg_none_of KX G ?x197,PySem.W.mg_none_of KX G ?x198,PySem.W.mg_none_of KX G ?x199,PySem.W.mg_none_of KX G ?x200,PySem.W.mg_none_of KX G ?x201,PySem.W.mg_none_of KX G ?x202,PySem.W.mg_none_of KX G ?x203,PySem.W.mg_none_of KX G ?x204,PySem.W.mg_none_of KX G ?x205,PySem.W.mg_none_of KX G ?x206,PySem.W.mg_none_of KX G ?x207,PySem.W.mg_none_of KX G ?x208,PySem.W.mg_none_of KX G ?x209,PySem.W.mg_none_of KX G ?x210,PySem.W.mg_none_of KX G ?x211⟩,PySem.W.mg_none_of KX G ?x212⟩,PySem.W.mg_none_of KX G ?x213⟩ ?x214 ⟨_,PySem.W.mg_of KX G ?x215,?x216⟩ ⟨_,PySem.W.mg_of KX G ?x217,?x218⟩ ⟨_,PySem.W.mg_of KX G ?x219,?x220⟩ ⟨_,PySem.W.mg_of KX G ?x221,?x222⟩ ⟨_,PySem.W.mg_of KX G ?x223,?x224⟩ ?x225 ?x226 ?x227 ?x228 ?x229
  (case x1 | x2 | x3 | x4 | x5 | x6 | x7 | x8 | x9 | x10 | x11 | x12 | x13 | x14 | x15 | x16 | x17 | x18 | x19 | x20 | x21 | x22 | x23 | x24 | x25 | x26 | x27 | x28 | x29 | x30 | x31 | x32 | x33 | x34 | x35 | x36 | x37 | x38 | x39 | x40 | x41 | x42 | x43 | x44 | x45 | x46 | x47 | x48 | x49 | x50 | x51 | x52 | x53 | x54 | x55 | x56 | x57 | x58 | x59 | x60 | x61 | x62 | x63 | x64 | x65 | x66 | x67 | x68 | x69 | x70 | x71 | x72 | x73 | x74 | x75 | x76 | x77 | x78 | x79 | x80 | x81 | x82 | x83 | x84 | x85 | x86 | x87 | x88 | x89 | x90 | x91 | x92 | x93 | x94 | x95 | x96 | x97 | x98 | x99 | x100 | x101 | x102 | x103 | x104 | x105 | x106 | x107 | x108 | x109 | x110 | x111 | x112 | x113 | x114 | x115 | x116 | x117 | x118 | x119 | x120 | x121 | x122 | x123 | x124 | x125 | x126 | x127 | x128 | x129 | x130 | x131 | x132 | x133 | x134 | x135 | x136 | x137 | x138 | x139 | x140 | x141 | x142 | x143 | x144 | x145 | x146 | x147 | x148 | x149 | x150 | x151 | x152 | x153 | x154 | x155 | x156 | x157 | x158 | x159 | x160 | x161 | x162 | x163 | x164 | x165 | x166 | x167 | x168 | x169 | x170 | x171 | x172 | x173 | x174 | x175 | x176 | x177 | x178 | x179 | x180 | x181 | x182 | x183 | x184 | x185 | x186 | x187 | x188 | x189 | x190 | x191 | x192 | x193 | x194 | x195 | x196 | x197 | x198 | x199 | x200 | x201 | x202 | x203 | x204 | x205 | x206 | x207 | x208 | x209 | x210 | x211 | x212 | x213 | x215 | x217 | x219 | x221 | x223 | x225 | x226=>k_is)
  (case x214=>first | kernel_rfl | decide +kernel)
  (case x216 | x218 | x220 | x222 | x224=>exact⟨_,rfl⟩)
  (case x227=>rfl)
  (case x228=>decide +kernel)
  (case x229=>repeat (first | exact .nil | refine .cons ⟨_,rfl⟩ ?_))
